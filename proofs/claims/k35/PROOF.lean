import PyProof.Rows.All
import Wide.All
import OpenK.AllK
import Wide.FinOn
import HandS.Base
import HandS.Call
import HandS.List
import HandS.Comp
import HandS.Ends
import HandS.Words
import HandS.Codes
import HandS.IsInst
import HandS.Flow
import HandS.Conv
import HandS.Iter
import KE.GoesEnum
import KE.GoesEnumKw
import KE.GoesMore
import HandS.Exc
import HandS.ExcOwn
import HandS.ExcInit
import HandS.TryOnly
import HandS.WordsExc
import KE.KExcIs
import HandS.ExcField
import HandS.ExcIs
import HandS.TupMul
import HandS.Sort
import KE.KExcSuper
import HandS.Small
import PyProof.TupleOfSeq
import HandS.TupAny
import HandS.Star
import HandS.SetFor
import PyProof.EqKinds
import PyProof.InstNe
import OpenK.KOwn
import KE.KIndexOf
import HandS.SortRule
import HandS.Zip
import HandS.Dict
import HandS.Style
import KE.KRevSl
import KE.KEqDict
import HandS.SuiteRaise
import HandS.RaiseFrom
import HandS.ExcInitHot
import KE.KTryMore
import HandS.Strs
import PyProof.Rows.SetFrom
import HandS.WordsDict
import HandS.DictComp
import HandS.Finally
import HandS.Walk
import PySem.Challenge.RW_foldervotes_k35_whole_places_had_and_pic
import KE.OsRunLaw
set_option Elab.async false
set_option linter.all false
set_option maxRecDepth 100000
set_option maxHeartbeats 4000000
namespace Fv
open PySem PySem.Spec PyProof.Rows L2
section
variable {K : PySem.W.Frag} {σ : L2.St} {H H' H1 H2 : Hp} {i : Nat} {v x y : V} {Q : VK} {D : Ends} {t u : TS} {te ta tb : TE} {tt tt2 : TT} {a b p q : Addr} {o o' : HO} {xs ys : List V}
theorem x_seq (h : t { D with nx := u D } σ H) : tSeq t u D σ H := h
theorem x_next (h : D.nx σ H) : tNext D σ H := h
theorem x_drop (h : te σ H fun _ H1 => D.nx σ H1) : tDrop te D σ H := h
theorem x_ret (h : te σ H D.rt) : tRet te D σ H := h
theorem x_ifs (h : tt σ H fun b H1 => if b = true then t D σ H1 else u D σ H1) : tIfS tt t u D σ H := h
theorem x_asg {g : TG} (h : te σ H fun x H1 => g x σ H1 D.nx) : tAsg te g D σ H := h
theorem x_gname {R : L2.St → Hp → Prop} (h : R (σ.set i (some v)) H) : gName i v σ H R := h
theorem x_gsub {to ti : TE} {s : TSet} {R : L2.St → Hp → Prop} (h : to σ H fun o H1 => ti σ H1 fun i H2 => s o i v H2 fun H3 => R σ H3) : gSub to ti s v σ H R := h
theorem x_gtup {n : Nat} {g : TGs} {R : L2.St → Hp → Prop} (h : SqT K H a xs) (hl : xs.length = n) (q : g xs σ H R) : gTup K n g (.ref a) σ H R := ⟨a, xs, rfl, h, hl, q⟩
theorem x_gcons {g : TG} {gs : TGs} {R : L2.St → Hp → Prop} (h : g x σ H fun σ' H' => gs xs σ' H' R) : gCons g gs (x :: xs) σ H R := ⟨x, xs, rfl, h⟩
theorem x_gnil {R : L2.St → Hp → Prop} (h : R σ H) : gNil [] σ H R := ⟨rfl, h⟩
theorem x_var (h : σ[i]? = some (some v)) (q : Q v H) : tVar i σ H Q := ⟨v, h, q⟩
theorem x_c (q : Q v H) : tC v σ H Q := q
theorem x_op {r : R2} (h : ta σ H fun x H1 => tb σ H1 fun y H2 => r x y H2 Q) : tOp r ta tb σ H Q := h
theorem x_un {r : V → Hp → VK → Prop} (h : ta σ H fun x H1 => r x H1 Q) : tUn r ta σ H Q := h
theorem x_i0 {g : Int → Int → V} {i j : Int} (q : Q (g i j) H) : rI0 g (.int i) (.int j) H Q := ⟨i, j, rfl, rfl, q⟩
theorem x_i {C : Int → Int → Prop} {g : Int → Int → V} {i j : Int} (c : C i j) (q : Q (g i j) H) : rI C g (.int i) (.int j) H Q := ⟨i, j, rfl, rfl, c, q⟩
theorem x_u {g : Int → V} {i : Int} (q : Q (g i) H) : rU g (.int i) H Q := ⟨i, rfl, q⟩
theorem x_eqI {i j : Int} (q : Q (.bl (decide (i = j))) H) : rEq (.int i) (.int j) H Q := ⟨rfl, by
  have e : decide (V.int i = V.int j) = decide (i = j) := by
    rw [Bool.eq_iff_iff]
    simp
  rw [e]
  exact q⟩
theorem x_neI {i j : Int} (q : Q (.bl (decide (i ≠ j))) H) : rNe (.int i) (.int j) H Q := ⟨rfl, by
  have e : (!decide (V.int i = V.int j)) = decide (i ≠ j) := by
    rw [Bool.eq_iff_iff]
    simp
  rw [e]
  exact q⟩
theorem x_ixL {i : Int} (h : SqL K H p xs) (ha : atI xs i = some v) (q : Q v H) : rIxL K (.ref p) (.int i) H Q := ⟨p, xs, i, v, rfl, rfl, h, ha, q⟩
theorem x_ixT {i : Int} (h : SqT K H p xs) (ha : atI xs i = some v) (q : Q v H) : rIxT K (.ref p) (.int i) H Q := ⟨p, xs, i, v, rfl, rfl, h, ha, q⟩
theorem x_setL {i : Int} {j : Nat} {R : Hp → Prop} (h : H p = some (.lst xs)) (hi : ixN xs.length i = some j) (q : R (upd H p (.lst (xs.set j v)))) : rSetL (.ref p) (.int i) v H R := ⟨p, xs, i, j, rfl, rfl, h, hi, q⟩
theorem x_test {R : Bool → Hp → Prop} (h : te σ H fun x H' => ∃ k, x = .bl k ∧ R k H') : tTest te σ H R := h
theorem x_b {R : Bool → Hp → Prop} (h : te σ H fun x H1 => ∃ c, x = .bl c ∧ R c H1) : tB te σ H R := h
theorem x_isb {c : Bool} {R : Bool → Prop} (h : R c) : ∃ k, V.bl c = .bl k ∧ R k := ⟨c, rfl, h⟩
theorem x_isi {c : Int} {R : Int → Prop} (h : R c) : ∃ k, V.int c = .int k ∧ R k := ⟨c, rfl, h⟩
theorem x_and {R : Bool → Hp → Prop} (h : tt σ H fun c H1 => if c = true then tt2 σ H1 R else R false H1) : tAnd tt tt2 σ H R := h
theorem x_or {R : Bool → Hp → Prop} (h : tt σ H fun c H1 => if c = true then R true H1 else tt2 σ H1 R) : tOr tt tt2 σ H R := h
theorem x_not {R : Bool → Hp → Prop} (h : tt σ H fun c H1 => R (!c) H1) : tNot tt σ H R := h
theorem x_andV (h : ta σ H fun x H1 => ∃ c, x = .bl c ∧ if c = true then tb σ H1 Q else Q (.bl false) H1) : tAndV ta tb σ H Q := h
theorem x_orV (h : ta σ H fun x H1 => ∃ c, x = .bl c ∧ if c = true then Q (.bl true) H1 else tb σ H1 Q) : tOrV ta tb σ H Q := h
theorem x_notV (h : ta σ H fun x H1 => ∃ c, x = .bl c ∧ Q (.bl (!c)) H1) : tNotV ta σ H Q := h
theorem x_ifx (h : tt σ H fun c H1 => if c = true then ta σ H1 Q else tb σ H1 Q) : tIf tt ta tb σ H Q := h
theorem x_nil {R : List V → Hp → Prop} (q : R [] H) : tNil σ H R := q
theorem x_cons {tr : TA} {R : List V → Hp → Prop} (h : te σ H fun x H1 => tr σ H1 fun xs H2 => R (x :: xs) H2) : tCons te tr σ H R := h
theorem x_cb {r : List V → Hp → VK → Prop} {ts : TA} (h : ts σ H fun vs H1 => r vs H1 Q) : tCB r ts σ H Q := h
theorem x_call {sp : Sp} {dvs : List V} {E : XK} {ts : TA} (h : ts σ H fun vs H1 => sp (vs ++ dvs) H1 Q E) : tCall sp dvs E ts σ H Q := h
theorem x_lst {ts : TA} (h : ts σ H fun xs H1 => xs.length ≤ sizeLine ∧ ∀ p, H1 p = none → Q (.ref p) (upd H1 p (.lst xs))) : tLst ts σ H Q := h
theorem x_tup {ts : TA} (h : ts σ H fun xs H1 => xs.length ≤ sizeLine ∧ ∀ p, H1 p = none → Q (.ref p) (upd H1 p (.tup xs))) : tTup ts σ H Q := h
theorem x_sl {r : V → Option Int → Option Int → Hp → VK → Prop} {tl th : TO} (h : te σ H fun x H1 => tl σ H1 fun l H2 => th σ H2 fun u H3 => r x l u H3 Q) : tSl r te tl th σ H Q := h
theorem x_nopart {R : Option Int → Hp → Prop} (h : R none H) : tNoPart σ H R := h
theorem x_part {R : Option Int → Hp → Prop} (h : te σ H fun x H1 => ∃ i, x = .int i ∧ R (some i) H1) : tPart te σ H R := h
theorem x_slL {lo hi : Option Int} (h : SqL K H a xs) (q : ∀ p, H p = none → Q (.ref p) (upd H p (.lst (cutV xs lo hi)))) : rSlL K (.ref a) lo hi H Q := ⟨a, xs, rfl, h, q⟩
theorem x_bm {T : String} {r : V → List V → Hp → VK → Prop} {ts : TA} (h : te σ H fun x H1 => tyV K T x H1 ∧ ts σ H1 fun xs H2 => r x xs H2 Q) : tBM K T r te ts σ H Q := h
theorem x_bm0 {T : String} {r : V → List V → Hp → VK → Prop} (h : te σ H fun x H1 => tyV K T x H1 ∧ r x [] H1 Q) : tBM0 K T r te σ H Q := h
theorem x_append (h : H p = some (.lst xs)) (hl : xs.length < sizeLine) (q : Q .non (upd H p (.lst (xs ++ [v])))) : rAppend (.ref p) [v] H Q := ⟨p, xs, v, rfl, rfl, h, hl, q⟩
theorem x_par {j : Nat} {ts : TA} (h : ts σ H fun vs H1 => ∃ v w, vs = [v, w] ∧ D.nx ((σ.set i (some v)).set j (some w)) H1) : tPar i j ts D σ H := h
theorem x_par2 {R : V → V → Prop} (h : R x y) : ∃ v w, [x, y] = [v, w] ∧ R v w := ⟨x, y, rfl, h⟩
theorem x_chain {r r' : R2} {tc : TE} (h : ta σ H fun x H1 => tb σ H1 fun y H2 => r x y H2 fun z H3 => ∃ k, z = .bl k ∧ (if k = true then tc σ H3 fun w' H4 => r' y w' H4 Q else Q (.bl false) H3)) : tChain r r' ta tb tc σ H Q := h
theorem x_aug {ti : TIp} (h : σ[i]? = some (some x)) (q : te σ H fun y H1 => ti x y H1 fun z H2 => D.nx (σ.set i (some z)) H2) : tAug i te ti D σ H := ⟨x, h, q⟩
theorem x_ipI {f : Int → Int → Int} {i j : Int} (q : Q (.int (f i j)) H) : ipI f (.int i) (.int j) H Q := ⟨i, j, rfl, rfl, q⟩
theorem x_ilist {R : It → Hp → Prop} {tl : TE} (h : tl σ H fun x H1 => ∃ a, x = .ref a ∧ (∃ xs, SqL K H1 a xs) ∧ R (Itl K a) H1) : iList K tl σ H R := h
theorem x_itup {R : It → Hp → Prop} {tl : TE} (h : tl σ H fun x H1 => ∃ a, x = .ref a ∧ (∃ xs, SqT K H1 a xs) ∧ R (Itt K a) H1) : iTup K tl σ H R := h
theorem x_rng1 {R : It → Hp → Prop} {ts : TA} (h : ts σ H fun vs H1 => ∃ j : Int, vs = [.int j] ∧ -(2 ^ 62) ≤ j ∧ j < 2 ^ 62 ∧ R (Itr 0 j.toNat) H1) : iRng1 ts σ H R := h
theorem x_rng2 {R : It → Hp → Prop} {ts : TA} (h : ts σ H fun vs H1 => ∃ i j : Int, vs = [.int i, .int j] ∧ (-(2 ^ 62) ≤ i ∧ i < 2 ^ 62 ∧ -(2 ^ 62) ≤ j ∧ j < 2 ^ 62) ∧ R (Itr i (j - i).toNat) H1) : iRng2 ts σ H R := h
theorem x_yes {R : Bool → Hp → Prop} (h : R true H) : tYes σ H R := h
def rLen (K : PySem.W.Frag) : List V → Hp → VK → Prop := fun xs H Q => ∃ p ys, xs = [.ref p] ∧ (SqL K H p ys ∨ SqT K H p ys) ∧ Q (.int ys.length) H
def rInt : List V → Hp → VK → Prop := fun xs H Q => (∃ i, xs = [.int i] ∧ Q (.int i) H) ∨ ∃ k, xs = [.bl k] ∧ Q (.int (if k then 1 else 0)) H
def rAbs : List V → Hp → VK → Prop := fun xs H Q => ∃ i, xs = [.int i] ∧ Q (.int (if i < 0 then -i else i)) H
def rTupOf (K : PySem.W.Frag) : List V → Hp → VK → Prop := fun xs H Q => ∃ p ys, xs = [.ref p] ∧ ((SqL K H p ys ∧ ∀ l, H l = none → Q (.ref l) (upd H l (.tup ys))) ∨ (SqT K H p ys ∧ Q (.ref p) H))
theorem call_len {X : Cx} : CallR X (.builtin "len") (rLen X.K) := call_len_seq
theorem call_int {X : Cx} : CallR X (.type "int") rInt := call_int1
theorem call_ab {X : Cx} : CallR X (.builtin "abs") rAbs := call_abs
theorem call_tpl {X : Cx} : CallR X (.type "tuple") (rTupOf X.K) := call_tuple_of
theorem x_lenL (h : SqL K H p xs) (q : Q (.int xs.length) H) : rLen K [.ref p] H Q := ⟨p, xs, rfl, .inl h, q⟩
theorem x_lenT (h : SqT K H p xs) (q : Q (.int xs.length) H) : rLen K [.ref p] H Q := ⟨p, xs, rfl, .inr h, q⟩
theorem x_int1 {j : Int} (q : Q (.int j) H) : rInt [.int j] H Q := .inl ⟨j, rfl, q⟩
theorem x_abs {j : Int} (q : Q (.int (if j < 0 then -j else j)) H) : rAbs [.int j] H Q := ⟨j, rfl, q⟩
theorem x_tupL (h : SqL K H p xs) (q : ∀ l, H l = none → Q (.ref l) (upd H l (.tup xs))) : rTupOf K [.ref p] H Q := ⟨p, xs, rfl, .inl ⟨h, q⟩⟩
theorem x_isd {c : Prop} [Decidable c] {A B : Prop} (h1 : c → A) (h2 : ¬ c → B) : if decide c = true then A else B := by
  by_cases h : c
  · rw [if_pos (decide_eq_true h)]
    exact h1 h
  · rw [if_neg (by rw [decide_eq_false h]; exact Bool.false_ne_true)]
    exact h2 h
theorem x_isdT {c : Prop} [Decidable c] {A B : Prop} (h : c) (h1 : A) : if decide c = true then A else B := x_isd (fun _ => h1) fun n => (n h).elim
theorem x_isdF {c : Prop} [Decidable c] {A B : Prop} (h : ¬ c) (h1 : B) : if decide c = true then A else B := x_isd (fun n => (h n).elim) fun _ => h1
theorem x_nF {A B : Prop} (h : A) : if (!false) = true then A else B := iteT h
theorem x_nT {A B : Prop} (h : B) : if (!true) = true then A else B := iteF h
theorem lp_range {g : TG} {tb : TS} {nx : L2.St → Hp → Prop} {rt : VK} {σ : L2.St} {H : Hp} {lo : Int} {n : Nat} (Pv : Nat → L2.St → Hp → Prop) (h0 : Pv 0 σ H) (hs : ∀ i σ H, i < n → Pv i σ H → g (.int (lo + i)) σ H fun σ2 H2 => tb { nx := Pv (i + 1), rt := rt, bk := nx, ct := Pv (i + 1) } σ2 H2) (hd : ∀ σ H, Pv n σ H → nx σ H) :
    ∃ W : Nat → Nat → L2.St → Hp → Prop, (∃ m, W 0 m σ H) ∧ ∀ i m σ H, W i m σ H → ((Itr lo n).stop i H ∧ nx σ H) ∨ ((Itr lo n).go i H ∧ ∃ N : L2.St → Hp → Prop, (∀ σ' H', N σ' H' → ∃ m', m' < m ∧ W (i + 1) m' σ' H') ∧ ∀ x H', (Itr lo n).yld i H x H' → g x σ H' fun σ2 H2 => tb { nx := N, rt := rt, bk := nx, ct := N } σ2 H2) :=
  for_range (D := { nx := nx, rt := rt}) Pv h0 hs hd
theorem lp_tup {g : TG} {tb : TS} {nx : L2.St → Hp → Prop} {rt : VK} {σ : L2.St} {H : Hp} {K : PySem.W.Frag} {a : Addr} {xs : List V} (Pv : Nat → L2.St → Hp → Prop) (h0 : Pv 0 σ H) (hl : ∀ i σ H, i ≤ xs.length → Pv i σ H → SqT K H a xs) (hs : ∀ i x σ H, xs[i]? = some x → Pv i σ H → g x σ H fun σ2 H2 => tb { nx := Pv (i + 1), rt := rt, bk := nx, ct := Pv (i + 1) } σ2 H2) (hd : ∀ σ H, Pv xs.length σ H → nx σ H) :
    ∃ W : Nat → Nat → L2.St → Hp → Prop, (∃ m, W 0 m σ H) ∧ ∀ i m σ H, W i m σ H → ((Itt K a).stop i H ∧ nx σ H) ∨ ((Itt K a).go i H ∧ ∃ N : L2.St → Hp → Prop, (∀ σ' H', N σ' H' → ∃ m', m' < m ∧ W (i + 1) m' σ' H') ∧ ∀ x H', (Itt K a).yld i H x H' → g x σ H' fun σ2 H2 => tb { nx := N, rt := rt, bk := nx, ct := N } σ2 H2) :=
  for_tup (D := { nx := nx, rt := rt}) Pv h0 hl hs hd
theorem keepN (h : H a = some o) (hp : H p = none) : upd H p o' a = some o := by
  rw [upd_ne (ne_of_none h hp)]
  exact h
theorem keepM (n : a ≠ p) (h : H a = some o) : upd H p o' a = some o := by
  rw [upd_ne n]
  exact h
theorem keepLM (n : a ≠ p) (h : SqL K H a xs) : SqL K (upd H p o') a xs := by
  rcases h with (h | ⟨u, h⟩) | h
  · exact .inl (.inl (keepM n h))
  · exact .inl (.inr ⟨u, keepM n h⟩)
  · exact .inr h
theorem keepTN (h : SqT K H a xs) (hp : H p = none) : SqT K (upd H p o') a xs := by
  rcases h with (h | ⟨u, h⟩) | h
  · exact .inl (.inl (keepN h hp))
  · exact .inl (.inr ⟨u, keepN h hp⟩)
  · exact .inr h
theorem _root_.L2.Same.seqT {K : PySem.W.Frag} {H H' : Hp} {a : Addr} {xs : List V} (e : Same H H') (h : SqT K H a xs) : SqT K H' a xs := by
  rcases h with (h | ⟨o, h⟩) | h
  · exact .inl (.inl (e _ _ h))
  · exact .inl (.inr ⟨o, e _ _ h⟩)
  · exact .inr h
theorem same_new (s : Same H H1) (hp : H1 p = none) : Same H (upd H1 p o) := fun b u e => keepN (s b u e) hp
theorem same_mut (s : Same H H1) (hp : H p = none) : Same H (upd H1 p o) := fun b u e => keepM (ne_of_none e hp) (s b u e)
def But (p : Addr) (H H' : Hp) : Prop := ∀ b o, b ≠ p → H b = some o → H' b = some o
theorem But.refl (p : Addr) (H : Hp) : But p H H := fun _ _ _ h => h
theorem But.trans (a : But p H H1) (b : But p H1 H2) : But p H H2 := fun c o n h => b c o n (a c o n h)
theorem But.of (s : Same H H1) : But p H H1 := fun b o _ h => s b o h
theorem But.new (s : But p H H1) (hq : H1 q = none) : But p H (upd H1 q o) := fun b u n e => keepN (s b u n e) hq
theorem But.mut (s : But p H H1) : But p H (upd H1 p o) := fun b u n e => keepM n (s b u n e)
theorem But.mutF (s : But p H H1) (hq : H q = none) : But p H (upd H1 q o) := fun b u n e => keepM (ne_of_none e hq) (s b u n e)
theorem But.seq (s : But p H H1) (n : a ≠ p) (h : SqL K H a xs) : SqL K H1 a xs := by
  rcases h with (h | ⟨o, h⟩) | h
  · exact .inl (.inl (s _ _ n h))
  · exact .inl (.inr ⟨o, s _ _ n h⟩)
  · exact .inr h
theorem But.seqT (s : But p H H1) (n : a ≠ p) (h : SqT K H a xs) : SqT K H1 a xs := by
  rcases h with (h | ⟨o, h⟩) | h
  · exact .inl (.inl (s _ _ n h))
  · exact .inl (.inr ⟨o, s _ _ n h⟩)
  · exact .inr h
theorem But.same (s : But p H H1) (hp : H p = none) : Same H H1 := fun b o e => s b o (ne_of_none e hp) e
end
theorem ne_none' {H : Hp} {a b : Addr} {o : HO} (h' : H b = none) (h : H a = some o) : b ≠ a := Ne.symm (ne_of_none h h')
theorem at_lt {xs : List V} {d : Int} (h1 : 0 ≤ d) (h2 : d < xs.length) : ∃ v, atI xs d = some v ∧ v ∈ xs := by
  obtain ⟨j, hj⟩ := Int.eq_ofNat_of_zero_le h1
  have hl : j < xs.length := by omega
  refine ⟨xs[j], ?_, List.getElem_mem hl⟩
  rw [hj]
  exact atI_nat (List.getElem?_eq_getElem hl)
structure Cal (K : PySem.W.Frag) (mg : Str → Option Value) (x : Str) (f : Addr) (fd : FuncData) (ps : List Str) : Prop where
  g : mg x = some (.ref f)
  k : PySem.W.keepIn K (.ref f) = true
  b : Binds K fd ps []
theorem szLe {n : Nat} (h : n ≤ 100000) : n ≤ sizeLine := Nat.le_trans h (by decide)
theorem szLt {n : Nat} (h : n < 100000) : n < sizeLine := Nat.lt_of_lt_of_le h (by decide)
end Fv
set_option maxRecDepth 100000
set_option maxHeartbeats 1000000
namespace Fv
open PySem PySem.Spec L2
def Kn (H : Hp) : V → Prop
  | .non => True
  | .bl _ => True
  | .int _ => True
  | .str _ => True
  | .ref a => (∃ xs, H a = some (.lst xs)) ∨ (∃ xs, H a = some (.tup xs)) ∨ ∃ kvs, H a = some (.dK kvs)
  | _ => False
theorem Kn.same {H H' : Hp} {x : V} (s : Same H H') (h : Kn H x) : Kn H' x := by
  cases x with
  | ref a =>
    rcases h with ⟨xs, h⟩ | ⟨xs, h⟩ | ⟨xs, h⟩
    · exact .inl ⟨xs, s _ _ h⟩
    · exact .inr (.inl ⟨xs, s _ _ h⟩)
    · exact .inr (.inr ⟨xs, s _ _ h⟩)
  | _ => exact h
theorem Kn.but {H H' : Hp} {p : Addr} {x : V} (s : But p H H') (hp : x ≠ .ref p) (h : Kn H x) : Kn H' x := by
  cases x with
  | ref a =>
    have n : a ≠ p := fun e => hp (by rw [e])
    rcases h with ⟨xs, h⟩ | ⟨xs, h⟩ | ⟨xs, h⟩
    · exact .inl ⟨xs, s _ _ n h⟩
    · exact .inr (.inl ⟨xs, s _ _ n h⟩)
    · exact .inr (.inr ⟨xs, s _ _ n h⟩)
  | _ => exact h
def isIntV : V → Bool
  | .int _ => true
  | .bl _ => true
  | _ => false
def isBlV : V → Bool
  | .bl _ => true
  | _ => false
def numV (lo hi : Int) : V → Bool
  | .int i => decide (lo ≤ i) && decide (i ≤ hi)
  | _ => false
theorem numT {lo hi i : Int} (c : lo ≤ i) : numV lo hi (.int i) = decide (i ≤ hi) := by
  show (decide (lo ≤ i) && decide (i ≤ hi)) = _
  rw [decide_eq_true c]
  rfl
theorem numF {lo hi i : Int} (c : ¬ lo ≤ i) : numV lo hi (.int i) = false := by
  show (decide (lo ≤ i) && decide (i ≤ hi)) = _
  rw [decide_eq_false c]
  rfl
section
variable {K : PySem.W.Frag} {σ : L2.St} {H H' H1 H2 : Hp} {i : Nat} {v x y : V} {Q : VK} {a b p q : Addr} {o o' : HO} {xs ys : List V}
theorem x_isK {T : String} {t : String} {b : Bool} (ty : TyX K H x (.type t)) (e : kitB t T = some b) (q : Q (.bl b) H) : rIsi K [x, .ty T] H Q := ⟨x, .ty T, .type t, .type T, b, rfl, .ty T, ty, kit_ty e, q⟩
theorem x_isInt (h : Kn H x) (q : Q (.bl (isIntV x)) H) : rIsi K [x, .ty "int"] H Q := by
  cases x with
  | non => exact x_isK (b := false) (.base .non) (by decide +kernel) q
  | bl b => exact x_isK (b := true) (.base (.bl b)) (by decide +kernel) q
  | int i => exact x_isK (b := true) (.base (.int i)) (by decide +kernel) q
  | str i => exact x_isK (b := false) (.base (.str i)) (by decide +kernel) q
  | byt b => exact h.elim
  | flt b => exact h.elim
  | ty b => exact h.elim
  | ref a =>
    rcases h with ⟨xs, h⟩ | ⟨xs, h⟩ | ⟨xs, h⟩
    · exact x_isK (b := false) (.base (.lst h)) (by decide +kernel) q
    · exact x_isK (b := false) (.base (.tup h)) (by decide +kernel) q
    · exact x_isK (b := false) (.base (.dK h)) (by decide +kernel) q
theorem x_isBl (h : Kn H x) (q : Q (.bl (isBlV x)) H) : rIsi K [x, .ty "bool"] H Q := by
  cases x with
  | non => exact x_isK (b := false) (.base .non) (by decide +kernel) q
  | bl b => exact x_isK (b := true) (.base (.bl b)) (by decide +kernel) q
  | int i => exact x_isK (b := false) (.base (.int i)) (by decide +kernel) q
  | str i => exact x_isK (b := false) (.base (.str i)) (by decide +kernel) q
  | byt b => exact h.elim
  | flt b => exact h.elim
  | ty b => exact h.elim
  | ref a =>
    rcases h with ⟨xs, h⟩ | ⟨xs, h⟩ | ⟨xs, h⟩
    · exact x_isK (b := false) (.base (.lst h)) (by decide +kernel) q
    · exact x_isK (b := false) (.base (.tup h)) (by decide +kernel) q
    · exact x_isK (b := false) (.base (.dK h)) (by decide +kernel) q
end
section
variable {K : PySem.W.Frag} {H : Hp} {Q : VK} {a : Addr} {xs : List V}
theorem isi_non_int (q : Q (.bl false) H) : rIsi K [.non, .ty "int"] H Q := x_isK (b := false) (.base .non) (by decide +kernel) q
theorem isi_non_tuple (q : Q (.bl false) H) : rIsi K [.non, .ty "tuple"] H Q := x_isK (b := false) (.base .non) (by decide +kernel) q
theorem isi_bl_int {c : Bool} (q : Q (.bl true) H) : rIsi K [.bl c, .ty "int"] H Q := x_isK (b := true) (.base (.bl c)) (by decide +kernel) q
theorem isi_bl_bool {c : Bool} (q : Q (.bl true) H) : rIsi K [.bl c, .ty "bool"] H Q := x_isK (b := true) (.base (.bl c)) (by decide +kernel) q
theorem isi_bl_tuple {c : Bool} (q : Q (.bl false) H) : rIsi K [.bl c, .ty "tuple"] H Q := x_isK (b := false) (.base (.bl c)) (by decide +kernel) q
theorem isi_int_int {j : Int} (q : Q (.bl true) H) : rIsi K [.int j, .ty "int"] H Q := x_isK (b := true) (.base (.int j)) (by decide +kernel) q
theorem isi_int_bool {j : Int} (q : Q (.bl false) H) : rIsi K [.int j, .ty "bool"] H Q := x_isK (b := false) (.base (.int j)) (by decide +kernel) q
theorem isi_int_tuple {j : Int} (q : Q (.bl false) H) : rIsi K [.int j, .ty "tuple"] H Q := x_isK (b := false) (.base (.int j)) (by decide +kernel) q
theorem isi_str_int {j : Str} (q : Q (.bl false) H) : rIsi K [.str j, .ty "int"] H Q := x_isK (b := false) (.base (.str j)) (by decide +kernel) q
theorem isi_str_tuple {j : Str} (q : Q (.bl false) H) : rIsi K [.str j, .ty "tuple"] H Q := x_isK (b := false) (.base (.str j)) (by decide +kernel) q
theorem isi_lst_int (h : H a = some (.lst xs)) (q : Q (.bl false) H) : rIsi K [.ref a, .ty "int"] H Q := x_isK (b := false) (.base (.lst h)) (by decide +kernel) q
theorem isi_lst_tuple (h : H a = some (.lst xs)) (q : Q (.bl false) H) : rIsi K [.ref a, .ty "tuple"] H Q := x_isK (b := false) (.base (.lst h)) (by decide +kernel) q
theorem isi_tup_int (h : H a = some (.tup xs)) (q : Q (.bl false) H) : rIsi K [.ref a, .ty "int"] H Q := x_isK (b := false) (.base (.tup h)) (by decide +kernel) q
theorem isi_tup_tuple (h : H a = some (.tup xs)) (q : Q (.bl true) H) : rIsi K [.ref a, .ty "tuple"] H Q := x_isK (b := true) (.base (.tup h)) (by decide +kernel) q
theorem isi_dK_int {kvs : List (Key × V)} (h : H a = some (.dK kvs)) (q : Q (.bl false) H) : rIsi K [.ref a, .ty "int"] H Q := x_isK (b := false) (.base (.dK h)) (by decide +kernel) q
theorem isi_dK_tuple {kvs : List (Key × V)} (h : H a = some (.dK kvs)) (q : Q (.bl false) H) : rIsi K [.ref a, .ty "tuple"] H Q := x_isK (b := false) (.base (.dK h)) (by decide +kernel) q
end
section
variable {K : PySem.W.Frag} {σ : L2.St} {H H' H1 H2 : Hp} {i : Nat} {v x y : V} {Q : VK} {a b p q : Addr} {o o' : HO} {xs ys : List V}
def sca : V → Bool
  | .non => true
  | .bl _ => true
  | .int _ => true
  | .str _ => true
  | _ => false
def Al (K : PySem.W.Frag) (H : Hp) : Nat → V → V → Prop
  | 0, x, y => x = y ∧ sca x = true
  | n + 1, x, y => (x = y ∧ sca x = true) ∨
      (∃ (a b : Addr) (xs ys : List V), x = .ref a ∧ y = .ref b ∧ H a = some (.lst xs) ∧ H b = some (.lst ys) ∧ xs.length = ys.length ∧ ys.length ≤ 1000 ∧ ∀ i (h1 : i < xs.length) (h2 : i < ys.length), Al K H n xs[i] ys[i]) ∨
      (∃ (a b : Addr) (xs ys : List V), x = .ref a ∧ y = .ref b ∧ H a = some (.tup xs) ∧ H b = some (.tup ys) ∧ xs.length = ys.length ∧ ys.length ≤ 1000 ∧ ∀ i (h1 : i < xs.length) (h2 : i < ys.length), Al K H n xs[i] ys[i])
theorem Al.same : ∀ {n : Nat} {x y : V}, Same H H' → Al K H n x y → Al K H' n x y
  | 0, _, _, _, h => h
  | n + 1, x, y, s, h => by
    rcases h with h | ⟨a, b, xs, ys, e1, e2, h1, h2, hl, hz, h⟩ | ⟨a, b, xs, ys, e1, e2, h1, h2, hl, hz, h⟩
    · exact .inl h
    · exact .inr (.inl ⟨a, b, xs, ys, e1, e2, s _ _ h1, s _ _ h2, hl, hz, fun i k1 k2 => (h i k1 k2).same s⟩)
    · exact .inr (.inr ⟨a, b, xs, ys, e1, e2, s _ _ h1, s _ _ h2, hl, hz, fun i k1 k2 => (h i k1 k2).same s⟩)
theorem Al.up {n : Nat} (h : Al K H n x y) : Al K H (n + 1) x y := by
  induction n generalizing x y with
  | zero => exact .inl h
  | succ n ih =>
    rcases h with h | ⟨a, b, xs, ys, e1, e2, h1, h2, hl, hz, h⟩ | ⟨a, b, xs, ys, e1, e2, h1, h2, hl, hz, h⟩
    · exact .inl h
    · exact .inr (.inl ⟨a, b, xs, ys, e1, e2, h1, h2, hl, hz, fun i k1 k2 => ih (h i k1 k2)⟩)
    · exact .inr (.inr ⟨a, b, xs, ys, e1, e2, h1, h2, hl, hz, fun i k1 k2 => ih (h i k1 k2)⟩)
theorem Al.le {n m : Nat} (hm : n ≤ m) (h : Al K H n x y) : Al K H m x y := by
  induction hm with
  | refl => exact h
  | step _ ih => exact ih.up
end
section
variable {X : Cx} {K : PySem.W.Frag}
theorem ix_listK (e : X.K = K) : IxR X (rIxL K) := by
  subst e
  exact ix_list
theorem ix_tupK (e : X.K = K) : IxR X (rIxT K) := by
  subst e
  exact ix_tup
theorem call_lenK (e : X.K = K) : CallR X (.builtin "len") (rLen K) := by
  subst e
  exact call_len
theorem call_tplK (e : X.K = K) : CallR X (.type "tuple") (rTupOf K) := by
  subst e
  exact call_tpl
theorem call_isiK' (e : X.K = K) : CallR X (.builtin "isinstance") (rIsi K) := by
  subst e
  exact call_isi
theorem sl_listK (e : X.K = K) : SlR X (rSlL K) := by
  subst e
  exact sl_list
theorem op_inK (e : X.K = K) : OpR X (compareOp .In) (rIn K false) := by
  subst e
  exact op_in_seq
theorem op_notInK (e : X.K = K) : OpR X (compareOp .NotIn) (rIn K true) := by
  subst e
  exact op_notIn_seq
theorem op_eqDK (e : X.K = K) (hu : X.A.units + 64 < cLine) : OpR X (compareOp .Eq) (rEqD K) := by
  subst e
  exact op_eqD hu
theorem cr_allK (e : X.K = K) (hc : X.calm = true) : CallR X (.builtin "all") (rAll K) := by
  subst e
  exact cr_all hc
section
variable {o e value : Expr} {f : Str} {pos apos cpos : Pos} {ta to : TE} {es : List Expr} {t : TA} {name : Str} {T id : String} {r : V → List V → Hp → VK → Prop}
theorem pe_fldK (k : X.K = K) (he : PE X e ta) (hb : attributeBase e f X.env (eval e X.env) = eval e X.env) : PE X (.Attribute e f pos) (tFld K ta f) := by
  subst k
  exact pe_fld he hb
theorem pe_bm0K (k : X.K = K) (pa : PlainAttrs T) (slot : Slot T name id) (hty : typeOf (.builtin id) = pure (.type "method_descriptor")) (hm : MtR X id r) (ho : PE X o to)
    (h1 : attributeBase o name X.env (eval o X.env) = eval o X.env := by rfl) (h2 : (apos.endLine == cpos.line) = true := by rfl) : PE X (.Call (.Attribute o name apos) [] [] cpos) (tBM0 K T r to) := by
  subst k
  exact pe_bm0 pa slot hty hm ho h1 h2
theorem pe_bmK (k : X.K = K) (pa : PlainAttrs T) (slot : Slot T name id) (hty : typeOf (.builtin id) = pure (.type "method_descriptor")) (hm : MtR X id r) (ho : PE X o to) (ha : PA X [e] t)
    (h1 : attributeBase o name X.env (eval o X.env) = eval o X.env := by rfl)
    (h2 : ((backTo cpos (starEach [e] X.env)).all (fun x => !x.1) && (backToKw cpos (keywordEach [] X.env)).all (fun x => x.1.isSome) && decide ([e].length + ([] : List Keyword).length + (if ([] : List Keyword).isEmpty then 0 else 1) < 30)) = true := by rfl)
    (h3 : (apos.endLine == cpos.line) = true := by rfl) (h4 : starEach [e] X.env = (false, eval e X.env) :: starEach [] X.env := by rfl) (h5 : (backTo cpos (starEach [] X.env)).any (·.1) = false := by rfl) :
    PE X (.Call (.Attribute o name apos) [e] [] cpos) (tBM K T r to t) := by
  subst k
  exact pe_bm pa slot hty hm ho ha h1 h2 h3 h4 h5
end
end
def rIsNk : R2 := fun x y H Q => y = .non ∧ Q (.bl (decide (x = .non))) H
def rNotNk : R2 := fun x y H Q => y = .non ∧ Q (.bl (!decide (x = .non))) H
section
variable {X : Cx} {K : PySem.W.Frag} {H : Hp} {Q : VK} {x v : V} {p : Addr} {i : Int} {xs : List V}
theorem op_isNk : OpR X (compareOp .Is) rIsNk := op_isN
theorem op_notNk : OpR X (compareOp .IsNot) rNotNk := op_notN
theorem x_isN0 (q : Q (.bl true) H) : rIsNk .non .non H Q := ⟨rfl, q⟩
theorem x_isN1 {b : Bool} (q : Q (.bl false) H) : rIsNk (.bl b) .non H Q := ⟨rfl, q⟩
theorem x_isN2 {b : Int} (q : Q (.bl false) H) : rIsNk (.int b) .non H Q := ⟨rfl, q⟩
theorem x_notN0 (q : Q (.bl false) H) : rNotNk .non .non H Q := ⟨rfl, q⟩
theorem x_notN1 {b : Bool} (q : Q (.bl true) H) : rNotNk (.bl b) .non H Q := ⟨rfl, q⟩
theorem x_notN2 {b : Int} (q : Q (.bl true) H) : rNotNk (.int b) .non H Q := ⟨rfl, q⟩
theorem x_neB {b c : Bool} (q : Q (.bl (decide (b ≠ c))) H) : rNe (.bl b) (.bl c) H Q := ⟨rfl, by
  have e : (!decide (V.bl b = V.bl c)) = decide (b ≠ c) := by
    rw [Bool.eq_iff_iff]
    simp
  rw [e]
  exact q⟩
end
def nats (l : List Nat) : List V := l.map fun (n : Nat) => V.int (Int.ofNat n)
theorem nats_length (l : List Nat) : (nats l).length = l.length := List.length_map ..
theorem nats_get {l : List Nat} {i x : Nat} (h : l[i]? = some x) : (nats l)[i]? = some (.int x) := by
  unfold nats
  rw [List.getElem?_map, h]
  rfl
theorem nats_at {l : List Nat} {i x : Nat} (h : l[i]? = some x) : atI (nats l) (i : Int) = some (.int x) := atI_nat (nats_get h)
theorem nats_append (l m : List Nat) : nats (l ++ m) = nats l ++ nats m := List.map_append ..
theorem nats_set (l : List Nat) (i x : Nat) : (nats l).set i (.int x) = nats (l.set i x) := by
  unfold nats
  rw [List.map_set]
  rfl
theorem nats_erase : ∀ (l : List Nat) (i : Nat), (nats l).eraseIdx i = nats (l.eraseIdx i)
  | [], _ => rfl
  | _ :: _, 0 => rfl
  | a :: l, i + 1 => by
    show V.int a :: (nats l).eraseIdx i = V.int a :: nats (l.eraseIdx i)
    rw [nats_erase l i]
theorem ixN_nat {n k : Nat} (h : k < n) : ixN n (k : Int) = some k := by
  unfold ixN
  rw [if_pos (by omega), if_pos (by omega)]
  rfl
theorem rgV_nats (n : Nat) : rgV 1 ((n : Int) + 1) = nats (List.range' 1 n) := by
  unfold rgV nats
  rw [List.range'_eq_map_range, List.map_map, show ((n : Int) + 1 - 1).toNat = n by omega]
  refine List.map_congr_left fun i _ => ?_
  show V.int (1 + (i : Int)) = V.int ((1 + i : Nat) : Int)
  rw [Int.natCast_add]
  rfl
section
variable {K : PySem.W.Frag} {σ : L2.St} {H : Hp} {Q : VK} {a p : Addr} {xs : List V} {ta tb : TE}
theorem x_listRg2 (h : ta σ H fun x H1 => tb σ H1 fun y H2 => ∃ i j, x = .int i ∧ y = .int j ∧ (RgOk i j ∧ ∀ q, H2 q = none → Q (.ref q) (upd H2 q (.lst (rgV i j))))) : tLstRg (tRg2 ta tb) σ H Q := h
theorem x_ij {i j : Int} {R : Int → Int → Prop} (h : R i j) : ∃ k l, V.int i = .int k ∧ V.int j = .int l ∧ R k l := ⟨i, j, rfl, rfl, h⟩
theorem x_tyL {R : Prop} (h : SqL K H a xs) (q : R) : tyV K "list" (.ref a) H ∧ R := ⟨.inl ⟨rfl, _, h⟩, q⟩
theorem x_popAt {i : Int} {k : Nat} {y : V} (h : H p = some (.lst xs)) (h1 : -(2 ^ 63) ≤ i) (h2 : i < 2 ^ 63) (hi : ixN xs.length i = some k) (hy : xs[k]? = some y) (q : Q y (upd H p (.lst (xs.eraseIdx k)))) : rPopAt (.ref p) [.int i] H Q := ⟨p, xs, i, k, y, rfl, rfl, h, h1, h2, (ixN_seq hi).1, hy, q⟩
end
theorem x_for {wi : TI} {g : TG} {tb : TS} {D : Ends} {σ : L2.St} {H : Hp} (h : wi σ H fun J H1 => ∃ W : Nat → Nat → L2.St → Hp → Prop, (∃ m, W 0 m σ H1) ∧ ∀ i m σ H, W i m σ H →
  (J.stop i H ∧ D.nx σ H) ∨ (J.go i H ∧ ∃ N : L2.St → Hp → Prop, (∀ σ' H', N σ' H' → ∃ m', m' < m ∧ W (i + 1) m' σ' H') ∧ ∀ x H', J.yld i H x H' → g x σ H' fun σ2 H2 => tb { nx := N, rt := D.rt, bk := D.nx, ct := N } σ2 H2)) : tFor wi g tb D σ H := h
theorem x_while {c : TT} {tb : TS} {D : Ends} {σ : L2.St} {H : Hp} (h : ∃ W : Nat → L2.St → Hp → Prop, (∃ m, W m σ H) ∧ ∀ m σ H, W m σ H →
  c σ H fun b H1 => if b = true then ∃ N : L2.St → Hp → Prop, (∀ σ' H', N σ' H' → ∃ m', m' < m ∧ W m' σ' H') ∧ tb { nx := N, rt := D.rt, bk := D.nx, ct := N } σ H1 else D.nx σ H1) : tWhile c tb D σ H := h
theorem x_lc {wi : TI} {g : TG} {tt : TT} {te : TE} {vs : List Nat} {σ : L2.St} {H : Hp} {Q : VK} (h : wi σ H fun J H1 => ∀ D, H1 D = none → ∃ W : Nat → Nat → Hp → Prop, (∃ m, W 0 m (upd H1 D (.lst []))) ∧ ∀ i m H, W i m H →
  (J.stop i H ∧ Q (.ref D) H) ∨ (J.go i H ∧ ∃ Nx : Hp → Prop, (∀ H', Nx H' → ∃ m', m' < m ∧ W (i + 1) m' H') ∧ ∀ x H', J.yld i H x H' → g x (wipe σ vs) H' fun σ2 H2 => wipe σ2 vs = wipe σ vs ∧ tt σ2 H2 fun b H3 =>
    if b = true then te σ2 H3 fun y H4 => ∃ acc, H4 D = some (.lst acc) ∧ acc.length < sizeLine ∧ Nx (upd H4 D (.lst (acc ++ [y]))) else Nx H3)) : tLc wi g tt te vs σ H Q := h
end Fv
namespace Fv
def up (hs : List Nat) (k : Nat) : Nat := if k = 0 then 0 else hs.getD (k - 1) 0
def upN (hs : List Nat) : Nat → Nat → Nat
  | 0, k => k
  | j + 1, k => upN hs j (up hs k)
structure IsTree (hs : List Nat) : Prop where
  pos : 1 ≤ hs.length
  most : hs.length ≤ 40
  le : ∀ x ∈ hs, x ≤ hs.length
  comes : ∀ k, k ≤ hs.length → upN hs hs.length k = 0
theorem up_zero (hs : List Nat) : up hs 0 = 0 := rfl
theorem upN_zero (hs : List Nat) : ∀ j, upN hs j 0 = 0
  | 0 => rfl
  | j + 1 => by
    show upN hs j (up hs 0) = 0
    rw [up_zero]
    exact upN_zero hs j
theorem upN_add (hs : List Nat) : ∀ i j k, upN hs (i + j) k = upN hs j (upN hs i k)
  | 0, j, k => by
    rw [Nat.zero_add]
    rfl
  | i + 1, j, k => by
    rw [Nat.add_right_comm]
    exact upN_add hs i j (up hs k)
theorem upN_succ (hs : List Nat) (j k : Nat) : upN hs (j + 1) k = up hs (upN hs j k) := upN_add hs j 1 k
theorem upN_more {hs : List Nat} {i j k : Nat} (h : upN hs i k = 0) (hj : i ≤ j) : upN hs j k = 0 := by
  obtain ⟨d, rfl⟩ := Nat.le.dest hj
  rw [upN_add, h]
  exact upN_zero hs d
theorem up_le {hs : List Nat} (h : ∀ x ∈ hs, x ≤ hs.length) (k : Nat) : up hs k ≤ hs.length := by
  unfold up
  split
  · exact Nat.zero_le _
  · rw [List.getD_eq_getElem?_getD]
    cases e : hs[k - 1]? with
    | none => exact Nat.zero_le _
    | some x => exact h x (List.mem_of_getElem? e)
theorem upN_le {hs : List Nat} (h : ∀ x ∈ hs, x ≤ hs.length) : ∀ j k, k ≤ hs.length → upN hs j k ≤ hs.length
  | 0, _, hk => hk
  | j + 1, k, _ => upN_le h j (up hs k) (up_le h k)
theorem up_at {hs : List Nat} {k x : Nat} (hk : k ≠ 0) (h : hs[k - 1]? = some x) : up hs k = x := by
  unfold up
  rw [if_neg hk, List.getD_eq_getElem?_getD, h]
  rfl
def Drawn (hs : List Nat) : Prop := ∃ ms : List Nat, ms.Perm (List.range' 1 hs.length) ∧ ∀ (i x : Nat), ms[i]? = some x → ∃ j y : Nat, j ≤ i ∧ (0 :: ms)[j]? = some y ∧ hs[x - 1]? = some y
theorem Drawn.tree {hs : List Nat} (h : Drawn hs) (h1 : 1 ≤ hs.length) (h2 : hs.length ≤ 40) : IsTree hs := by
  obtain ⟨ms, hp, hd⟩ := h
  have hlen : ms.length = hs.length := by rw [hp.length_eq, List.length_range']
  have mem : ∀ x, x ∈ ms ↔ 1 ≤ x ∧ x < 1 + hs.length := fun x => by rw [hp.mem_iff, List.mem_range'_1]
  have key : ∀ i x, ms[i]? = some x → upN hs (i + 1) x = 0 := by
    intro i
    induction i using Nat.strongRecOn with
    | ind i ih =>
      intro x hx
      obtain ⟨j, y, hj, hy, e⟩ := hd i x hx
      have x1 := (mem x).mp (List.mem_of_getElem? hx)
      show upN hs i (up hs x) = 0
      rw [up_at (by omega) e]
      cases j with
      | zero =>
        have e0 : 0 = y := Option.some.inj hy
        rw [← e0]
        exact upN_zero hs i
      | succ j => exact upN_more (ih j (by omega) y hy) (by omega)
  refine ⟨h1, h2, fun x hx => ?_, fun k hk => ?_⟩
  · obtain ⟨p, hp1, e⟩ := List.getElem_of_mem hx
    have hm := (mem (p + 1)).mpr ⟨by omega, by omega⟩
    obtain ⟨i, hi, e2⟩ := List.getElem_of_mem hm
    obtain ⟨j, y, hj, hy, e3⟩ := hd i (p + 1) (by rw [List.getElem?_eq_getElem hi, e2])
    have e4 : hs[p]? = some y := e3
    rw [List.getElem?_eq_getElem hp1, e] at e4
    cases e4
    cases j with
    | zero =>
      have e0 : 0 = x := Option.some.inj hy
      omega
    | succ j =>
      have := (mem x).mp (List.mem_of_getElem? (show ms[j]? = some x from hy))
      omega
  · by_cases h0 : k = 0
    · rw [h0]
      exact upN_zero hs _
    · obtain ⟨i, hi, e2⟩ := List.getElem_of_mem ((mem k).mpr ⟨by omega, by omega⟩)
      exact upN_more (key i k (by rw [List.getElem?_eq_getElem hi, e2])) (by omega)
theorem perm_erase : ∀ {l : List Nat} {i : Nat} {x : Nat}, l[i]? = some x → (x :: l.eraseIdx i).Perm l
  | [], _, _, h => by simp at h
  | a :: l, 0, x, h => by
    have e : a = x := Option.some.inj h
    rw [e]
    exact List.Perm.refl _
  | a :: l, i + 1, x, h => by
    have ih := perm_erase (l := l) (i := i) (x := x) h
    exact (List.Perm.swap a x _).trans (ih.cons a)
theorem bounded_len : ∀ (n : Nat) (l : List Nat), l.Nodup → (∀ x ∈ l, 1 ≤ x ∧ x ≤ n) → l.length ≤ n
  | 0, l, _, h => by
    cases l with
    | nil => exact Nat.le_refl _
    | cons x r =>
      have := h x List.mem_cons_self
      omega
  | n + 1, l, hn, h => by
    have h1 : (l.erase (n + 1)).length ≤ n := bounded_len n _ (hn.erase _) fun x hx => by
      have hx1 := (List.Nodup.mem_erase_iff hn).mp hx
      have := h x hx1.2
      omega
    by_cases hm : n + 1 ∈ l
    · rw [List.length_erase_of_mem hm] at h1
      omega
    · rw [List.erase_of_not_mem hm] at h1
      omega
theorem comes_by {hs : List Nat} (h : ∀ x ∈ hs, x ≤ hs.length) {j k : Nat} (hk : k ≤ hs.length) (hj : upN hs j k = 0) : upN hs hs.length k = 0 := by
  -- the least such number of steps
  have ex : ∃ d, upN hs d k = 0 ∧ ∀ d', d' < d → upN hs d' k ≠ 0 := by
    induction j using Nat.strongRecOn with
    | ind j ih =>
      by_cases hx : ∃ d, d < j ∧ upN hs d k = 0
      · obtain ⟨d, hd, e⟩ := hx
        exact ih d hd e
      · exact ⟨j, hj, fun d' hd e => hx ⟨d', hd, e⟩⟩
  obtain ⟨d, e, least⟩ := ex
  refine upN_more e ?_
  have hl : ((List.range d).map fun i => upN hs i k).length ≤ hs.length := by
    refine bounded_len hs.length _ ?_ fun x hx => ?_
    · rw [List.nodup_iff_pairwise_ne, List.pairwise_map]
      refine List.Pairwise.imp_of_mem (R := (· < ·)) (fun {a b} ha hb hlt heq => ?_) List.pairwise_lt_range
      rw [List.mem_range] at ha hb
      -- from a equal places one comes to the head as soon from a as from b
      have e1 : upN hs (a + (d - b)) k = 0 := by
        rw [upN_add, heq, ← upN_add, show b + (d - b) = d by omega]
        exact e
      exact least _ (by omega) e1
    · obtain ⟨i, hi, rfl⟩ := List.mem_map.mp hx
      rw [List.mem_range] at hi
      have := least i hi
      have := upN_le h i k hk
      omega
  rw [List.length_map, List.length_range] at hl
  exact hl
end Fv
set_option maxRecDepth 100000
set_option maxHeartbeats 1000000
namespace Fv
open PySem PySem.Spec L2
section
variable {K : PySem.W.Frag} {σ : L2.St} {H : Hp} {Q : VK} {a b p : Addr} {xs ys : List V} {ta tb : TE}
theorem x_cat (h1 : H a = some (.lst xs)) (h2 : H b = some (.lst ys)) (hl : xs.length + ys.length ≤ sizeLine) (q : ∀ p, H p = none → Q (.ref p) (upd H p (.lst (xs ++ ys)))) : rCat (.ref a) (.ref b) H Q := ⟨a, b, xs, ys, rfl, rfl, h1, h2, hl, q⟩
theorem rep_one : ∀ (n : Nat) (v : V), (List.replicate n [v]).flatten = List.replicate n v
  | 0, _ => rfl
  | n + 1, v => by
    rw [List.replicate_succ, List.flatten_cons, rep_one n v, List.replicate_succ]
    rfl
theorem x_rep1 {n : Nat} {v : V} (h1 : H a = some (.lst [v])) (hn : n ≤ 1000) (q : ∀ p, H p = none → Q (.ref p) (upd H p (.lst (List.replicate n v)))) : rRep (.ref a) (.int n) H Q := by
  refine ⟨a, n, [v], rfl, rfl, h1, by omega, by omega, szLe (by show 1 * _ ≤ _; omega), fun p hp => ?_⟩
  rw [show (n : Int).toNat = n from rfl, rep_one]
  exact q p hp
theorem nats_rep (n : Nat) : List.replicate n (V.int 0) = nats (List.replicate n 0) := by
  unfold nats
  rw [List.map_replicate]
  rfl
end
end Fv
set_option maxRecDepth 100000
set_option maxHeartbeats 1000000
namespace Fv
open PySem PySem.Spec L2
def Itn (K : PySem.W.Frag) (t : Addr) (k : Int) : It where
  go := fun i H => ∃ (xs : List V) (x : V), SqT K H t xs ∧ xs[i]? = some x
  yld := fun i H v H' => ∃ (T : Addr) (x : V), v = .ref T ∧ H T = none ∧ H' = upd H T (.tup [.int (k + (i : Int)), x]) ∧ ∀ xs, SqT K H t xs → xs[i]? = some x
  stop := fun i H => ∃ xs : List V, SqT K H t xs ∧ xs.length = i
theorem isTuple_of {h : Heap} {a : Addr} {its : Array Value} (x : PyProof.Rows.IsTup h a its) : h.IsTuple a its := by
  obtain ⟨o, e, c, n, d⟩ := x
  exact ⟨o, e, c, n, d⟩
theorem turn_enumT {P : Program} {w : World} {K : PySem.W.Frag} {elts : List Expr} {kk : Nat} {tpos : Pos} (k : Int) (t e it : Addr) (nt : t ≠ it) (ne : e ≠ it) (ne' : e ≠ t) :
    Turn P w K (.Tuple elts kk tpos) (Itn K t k) [e, it] e (fun i h => (∃ old, IsEnum h e it (k + (i : Int)) old) ∧ h.IsTupleIter it t i) where
  mem := List.mem_cons_self
  obj := fun i h st b hb => by
    obtain ⟨⟨old, he⟩, ⟨o, ho, hc, hd⟩⟩ := st
    rcases List.mem_cons.mp hb with rfl | hb
    · exact ⟨_, he, fun v q => nomatch q⟩
    · rw [List.mem_singleton.mp hb]
      exact ⟨o, ho, fun v q => by rw [hd] at q; cases q⟩
  keep := fun i h h' st kp => ⟨st.1.elim fun old he => ⟨old, kp e List.mem_cons_self _ he⟩, st.2.at fun o q => kp it (List.mem_cons_of_mem _ List.mem_cons_self) o q⟩
  item := by
    intro X hP hw hK hc i pins s σ H E I hf st hg
    subst hP hw hK
    obtain ⟨xs, x, hq, hx⟩ := hg
    obtain ⟨its, rv, p, hz⟩ := I.tuple hq
    obtain ⟨u, hu, ru⟩ := rv.get hx
    have hil : i < its.length := (List.getElem?_eq_some_iff.mp hu).1
    have W := WalksT.enumFrom (prog := X.prog) (w := X.w) (A := X.A) k (Draws.tuple (prog := X.prog) (w := X.w) (A := X.A.in1) (it := it) (t := t) (show X.A.in1.handled = none from I.ok.hd hc) nt its.toArray) e ne (by simp [ne, ne']) (by simp)
    refine W.item i s _ E (by simpa using hil) ⟨st.1, st.2, isTuple_of p⟩ fun T vals h' tk hP' hT hTup hMid hk => ?_
    refine ⟨_, rfl, W.go elts kk tpos i T _ _ E hMid fun h'' hst' hk' => ?_⟩
    obtain ⟨tk2, y, hy, rfl⟩ := hP'
    have ey : y = u := by
      have e1 : its.toArray[i]? = some u := by simpa using hu
      rw [e1] at hy
      exact (Option.some.inj hy).symm
    subst ey
    have hfp : ∀ b ∈ [e, it], b < s.heap.objs.size := fun b hb => by
      obtain ⟨⟨old, he⟩, ⟨o, ho, _⟩⟩ := st
      rcases List.mem_cons.mp hb with rfl | hb
      · exact Heap.lt_size he
      · rw [List.mem_singleton.mp hb]
        exact Heap.lt_size ho
    have hTn : T ∉ [e, it] := W.apart i T _ hMid
    have hTup2 : h''.IsTuple T #[.int (k + (i : Int)) tk2, y] := by
      obtain ⟨o, e1, c1, n1, d1⟩ := hTup
      exact ⟨o, hk' _ _ hTn e1, c1, n1, d1⟩
    have new : ObjOk X.prog X.w (upd H T (.tup [.int (k + (i : Int)), x])) h'' T (.tup [.int (k + (i : Int)), x]) := by
      obtain ⟨o, e1, c1, n1, d1⟩ := hTup2
      exact ⟨by show 2 ≤ sizeLine; decide, [.int (k + (i : Int)) tk2, y], .cons ⟨_, rfl⟩ (.cons ru .nil), ⟨o, e1, c1, n1, d1⟩⟩
    have I1 : Inv X pins σ (upd H T (.tup [.int (k + (i : Int)), x])) { s with heap := h'', toks := tk } :=
      I.turnedNew (ch := [e, it]) (fun b ob hb q => hk' b ob hb (hk b ob hb q)) hf hT new
    refine ⟨.ref T, _, I1, rfl, ⟨T, x, rfl, I.hok.fresh hT, rfl, fun ys hys => by rw [I.tuple_inj hys hq]; exact hx⟩, ⟨hst'.1, hst'.2.1⟩, fun b hb => ?_⟩
    have hbT : b ≠ T := fun z => absurd (hfp b hb) (by rw [z]; exact Nat.not_lt.mpr hT)
    rw [upd_ne hbT]
    exact (hf b hb).1
  done := by
    intro X hP hw hK hc i pins s σ H E I hf st hg
    subst hP hw hK
    obtain ⟨xs, hq, hx⟩ := hg
    obtain ⟨its, rv, p, hz⟩ := I.tuple hq
    have W := WalksT.enumFrom (prog := X.prog) (w := X.w) (A := X.A) k (Draws.tuple (prog := X.prog) (w := X.w) (A := X.A.in1) (it := it) (t := t) (show X.A.in1.handled = none from I.ok.hd hc) nt its.toArray) e ne (by simp [ne, ne']) (by simp)
    have el : i = its.toArray.size := by
      rw [← hx, Vals.length rv]
      simp
    rw [el] at st
    refine W.done s _ E ⟨st.1, st.2, isTuple_of p⟩ fun h' tk hk => ⟨rfl, ?_⟩
    have nh : ∀ b u, H b = some u → b ∉ [e, it] := fun b u hb z => by
      have q := (hf b z).1
      rw [q] at hb
      cases hb
    refine I.step (g' := s.gens) (d' := s.drawn) (ch := [e, it]) (fun b hb => ⟨(hf b hb).2.2.2.1, (hf b hb).2.1, (hf b hb).2.2.2.2.1, (hf b hb).2.2.2.2.2⟩) (fun b o _ _ hc e _ => hk b o hc e) (fun b o _ _ hc e _ => ⟨o.slots, hk b o hc e⟩)
      (fun _ _ _ _ n => n) (fun b o hc e => ⟨o, hk b o hc e⟩) (fun _ _ q => q) (fun _ _ _ q => q) (fun _ ps q => ⟨#[], by rw [q]; simp⟩) (fun m hm => ?_) (fun b u hb => ?_) I.bare
    · obtain ⟨o, es, ep, ho, r⟩ := hm
      exact ⟨o, es, ep, hk _ o (fun z => (hf _ z).2.1 rfl) ho, r⟩
    · refine (I.hok b u hb).stay (fun c v hc q => hk c v ?_ q) (fun _ q => q) fun _ _ q => q
      rcases hc with z | z
      · rw [z]
        exact nh b u hb
      · exact nh c _ z
  self := fun A i s Q E st h => by
    obtain ⟨⟨old, he⟩, _⟩ := st
    exact wpAny_pyIter_enum he h
def iEnT (K : PySem.W.Frag) (k : Int) (ta : TA) : TI := fun σ H R => ta σ H fun vs H1 => ∃ (t : Addr) (xs : List V), vs = [.ref t] ∧ SqT K H1 t xs ∧ R (Itn K t k) H1
theorem pi_enumT {X : Cx} {e : Expr} {ta : TA} {p pos tpos kpos kp : Pos} {elts : List Expr} {kk j : Nat} {k : Int} (hc : X.calm = true) (hg : Gl X "enumerate") (hm : X.mg "enumerate" = none) (h0 : -(2 ^ 63) ≤ k) (h1 : k < 2 ^ 63) (ha : PA X [e] ta)
    (hs : starEach [e] X.env = (false, eval e X.env) :: starEach [] X.env := by rfl) :
    PI X (.Tuple elts kk tpos) (.Call (.Name "enumerate" p) [e] [⟨some "start", .Constant (.int k) j kp, kpos⟩] pos) (iEnT X.K k ta) := by
  refine ⟨fun pins s σ H R I h => ?_⟩
  refine wpAny_Call_Name_kw (ld_blt I hg hm (u := .type "enumerate") (by decide +kernel) ?_)
  refine PySem.W.callWith_of (P := fun _ => True) (by rw [hs]; rfl) (fun h _ => ⟨_, .inr (.inl rfl), PySem.W.Looks.of_pure rfl⟩) (PyProof.Rows.evalArgs_kw2 rfl (thn (ha.run pos pins s σ H _ I h) fun us s1 ⟨vs, H1, I1, r1, t, xs, ev, hq, q⟩ => ?_) hs)
  have hkw : PK X [⟨some "start", .Constant (.int k) j kp, kpos⟩] (tCons (tC (.int k)) tNil) := pk_cons pe_int pk_nil
  refine thn (hkw.run pos pins s1 σ H1 (fun zs H2 => zs = [.int k] ∧ H2 = H1) I1 ⟨rfl, rfl⟩) fun ks s2 ⟨zs, H2, I2, r2, ez, eH⟩ => ⟨True.intro, ?_⟩
  subst ev ez eH
  cases r1 with
  | cons r rr =>
    cases rr
    cases r
    cases r2 with
    | cons rk rrk =>
      cases rrk
      obtain ⟨tk, rfl⟩ := rk
      obtain ⟨its, rv, p', hz⟩ := I2.tuple hq
      refine enum_begins_start (begins_tuple t its.toArray) (isTuple_of p') h0 h1 fun h' he hit hsz hkp => ?_
      refine wpAny_pyIter_enum he ?_
      have I3 : Inv X pins σ H2 { s2 with heap := h' } := I2.kept (t' := s2.toks) hkp
      have ht : t < s2.heap.objs.size := p'.lt
      have hn : ∀ b, s2.heap.objs.size ≤ b → H2 b = none := fun b hb => I2.hok.fresh hb
      refine ⟨s2.heap.objs.size + 1, [s2.heap.objs.size + 1, s2.heap.objs.size], _, _, H2, rfl, I3, turn_enumT k t (s2.heap.objs.size + 1) s2.heap.objs.size (Nat.ne_of_lt ht) (Nat.succ_ne_self _) (Nat.ne_of_gt (Nat.lt_succ_of_lt ht)),
        ⟨⟨.none, ?_⟩, ⟨_, hit, rfl, rfl⟩⟩, fun b hb => ?_, q⟩
      · rw [show k + ((0 : Nat) : Int) = k by omega]
        exact he
      · have hle : s2.heap.objs.size ≤ b := by
          rcases List.mem_cons.mp hb with rfl | hb
          · exact Nat.le_succ _
          · rw [List.mem_singleton.mp hb]
            exact Nat.le_refl _
        exact I2.fpOk hle (hn b hle)
end Fv
set_option maxRecDepth 100000
set_option maxHeartbeats 1000000
namespace Fv
open PySem PySem.Spec L2
theorem lp_enumT {K : PySem.W.Frag} {t : Addr} {k : Int} {xs : List V} {g : TG} {tb : TS} {nx : L2.St → Hp → Prop} {rt : VK} {σ : L2.St} {H : Hp} (Pv : Nat → L2.St → Hp → Prop) (h0 : Pv 0 σ H) (hl : ∀ i σ H, i ≤ xs.length → Pv i σ H → SqT K H t xs)
    (hs : ∀ i x σ H T, xs[i]? = some x → Pv i σ H → H T = none → g (.ref T) σ (upd H T (.tup [.int (k + (i : Int)), x])) fun σ2 H2 => tb { nx := Pv (i + 1), rt := rt, bk := nx, ct := Pv (i + 1) } σ2 H2) (hd : ∀ σ H, Pv xs.length σ H → nx σ H) :
    ∃ W : Nat → Nat → L2.St → Hp → Prop, (∃ m, W 0 m σ H) ∧ ∀ i m σ H, W i m σ H → ((Itn K t k).stop i H ∧ nx σ H) ∨ ((Itn K t k).go i H ∧ ∃ N : L2.St → Hp → Prop, (∀ σ' H', N σ' H' → ∃ m', m' < m ∧ W (i + 1) m' σ' H') ∧ ∀ x H', (Itn K t k).yld i H x H' → g x σ H' fun σ2 H2 => tb { nx := N, rt := rt, bk := nx, ct := N } σ2 H2) := by
  refine ⟨fun i m σ H => m = xs.length - i ∧ i ≤ xs.length ∧ Pv i σ H, ⟨_, rfl, Nat.zero_le _, h0⟩, ?_⟩
  rintro i m σ H ⟨rfl, hi, p⟩
  have q := hl i σ H hi p
  by_cases hlt : i < xs.length
  · refine .inr ⟨⟨xs, xs[i], q, List.getElem?_eq_getElem hlt⟩, Pv (i + 1), fun σ' H' p' => ⟨_, by omega, rfl, hlt, p'⟩, fun x H' y => ?_⟩
    obtain ⟨T, z, rfl, hT, rfl, hz⟩ := y
    exact hs i z σ H T (hz xs q) p hT
  · have e : i = xs.length := by omega
    subst e
    exact .inl ⟨⟨xs, q, rfl⟩, hd σ H p⟩
section
variable {K : PySem.W.Frag} {σ : L2.St} {H : Hp} {Q : VK} {a p : Addr} {xs : List V} {ta tb : TE}
theorem x_ent {R : It → Hp → Prop} {k : Int} {ts : TA} (h : ts σ H fun vs H1 => ∃ (t : Addr) (xs : List V), vs = [.ref t] ∧ SqT K H1 t xs ∧ R (Itn K t k) H1) : iEnT K k ts σ H R := h
theorem x_ent1 {R : Addr → Prop} (h : SqT K H a xs) (q : R a) : ∃ (t : Addr) (ys : List V), [V.ref a] = [.ref t] ∧ SqT K H t ys ∧ R t := ⟨a, xs, rfl, h, q⟩
end
theorem pi_enumTK {X : Cx} {K : PySem.W.Frag} {e : Expr} {ta : TA} {p pos tpos kpos kp : Pos} {elts : List Expr} {kk j : Nat} {k : Int} (eK : X.K = K) (hc : X.calm = true) (hg : Gl X "enumerate") (hm : X.mg "enumerate" = none) (h0 : -(2 ^ 63) ≤ k) (h1 : k < 2 ^ 63) (ha : PA X [e] ta)
    (hs : starEach [e] X.env = (false, eval e X.env) :: starEach [] X.env := by rfl) :
    PI X (.Tuple elts kk tpos) (.Call (.Name "enumerate" p) [e] [⟨some "start", .Constant (.int k) j kp, kpos⟩] pos) (iEnT K k ta) := by
  subst eK
  exact pi_enumT hc hg hm h0 h1 ha hs
theorem x_isnd {c : Prop} [Decidable c] {A B : Prop} (h1 : ¬ c → A) (h2 : c → B) : if (!decide c) = true then A else B := by
  by_cases h : c
  · rw [decide_eq_true h]
    exact iteF (h2 h)
  · rw [decide_eq_false h]
    exact iteT (h1 h)
theorem num_int {lo hi : Int} {x : V} (h : numV lo hi x = true) : ∃ z, x = .int z ∧ lo ≤ z ∧ z ≤ hi := by
  cases x with
  | int i =>
    have h' : (decide (lo ≤ i) && decide (i ≤ hi)) = true := h
    rw [Bool.and_eq_true, decide_eq_true_eq, decide_eq_true_eq] at h'
    exact ⟨i, rfl, h'.1, h'.2⟩
  | _ => cases h
theorem at_pred {xs : List V} {i : Nat} {x : V} (h : xs[i]? = some x) : atI xs (1 + (i : Int) - 1) = some x := by
  rw [show 1 + (i : Int) - 1 = (i : Int) by omega]
  exact atI_nat h
inductive Due where
  | hung
  | block (k : Nat)
  | ring (k : Nat)
  | ok
def badV (n i : Nat) (x : V) : Prop := numV 0 n x = false ∨ x = .int ((i + 1 : Nat) : Int)
inductive DueIs (xs : List V) : Due → Prop where
  | hung : ¬ (1 ≤ xs.length ∧ xs.length ≤ 40) → DueIs xs .hung
  | block {i : Nat} {x : V} : 1 ≤ xs.length → xs.length ≤ 40 → (∀ j y, j < i → xs[j]? = some y → ¬ badV xs.length j y) → xs[i]? = some x → badV xs.length i x → DueIs xs (.block (i + 1))
  | ring {hs : List Nat} {k : Nat} : 1 ≤ xs.length → xs.length ≤ 40 → xs = nats hs → (∀ j y, xs[j]? = some y → ¬ badV xs.length j y) → (∀ j, 1 ≤ j → j < k → upN hs hs.length j = 0) → 1 ≤ k → k ≤ hs.length → upN hs hs.length k ≠ 0 → DueIs xs (.ring k)
  | ok {hs : List Nat} : IsTree hs → xs = nats hs → (∀ j y, xs[j]? = some y → ¬ badV xs.length j y) → DueIs xs .ok
theorem nats_inj : ∀ {l m : List Nat}, nats l = nats m → l = m
  | [], [], _ => rfl
  | [], _ :: _, h => by cases h
  | _ :: _, [], h => by cases h
  | a :: l, b :: m, h => by
    have h' : V.int (Int.ofNat a) :: nats l = V.int (Int.ofNat b) :: nats m := h
    injection h' with h1 h2
    injection h1 with h1
    injection h1 with h1
    rw [h1, nats_inj h2]
theorem DueIs.det {xs : List V} {d e : Due} (h : DueIs xs d) (h' : DueIs xs e) : d = e := by
  cases h with
  | hung n =>
    cases h' with
    | hung _ => rfl
    | block a b _ _ _ => exact (n ⟨a, b⟩).elim
    | ring a b _ _ _ _ _ _ => exact (n ⟨a, b⟩).elim
    | ok t e _ => exact (n ⟨by rw [e, nats_length]; exact t.pos, by rw [e, nats_length]; exact t.most⟩).elim
  | @block i x a b f e1 bd =>
    cases h' with
    | hung n => exact (n ⟨a, b⟩).elim
    | @block j y _ _ f2 e2 bd2 =>
      rcases Nat.lt_trichotomy i j with h | h | h
      · exact (f2 _ _ h e1 bd).elim
      · rw [h]
      · exact (f _ _ h e2 bd2).elim
    | ring _ _ _ f2 _ _ _ _ => exact (f2 _ _ e1 bd).elim
    | ok _ _ f2 => exact (f2 _ _ e1 bd).elim
  | @ring hs k a b e f g k1 k2 nz =>
    cases h' with
    | hung n => exact (n ⟨a, b⟩).elim
    | block _ _ _ e2 bd => exact (f _ _ e2 bd).elim
    | @ring hs2 k' _ _ e2 _ g2 k1' k2' nz2 =>
      have eh := nats_inj (e.symm.trans e2)
      subst eh
      rcases Nat.lt_trichotomy k k' with h | h | h
      · exact (nz (g2 k k1 h)).elim
      · rw [h]
      · exact (nz2 (g k' k1' h)).elim
    | @ok hs2 t e2 _ =>
      have eh := nats_inj (e.symm.trans e2)
      subst eh
      exact (nz (t.comes k k2)).elim
  | @ok hs t e f =>
    cases h' with
    | hung n => exact (n ⟨by rw [e, nats_length]; exact t.pos, by rw [e, nats_length]; exact t.most⟩).elim
    | block _ _ _ e2 bd => exact (f _ _ e2 bd).elim
    | @ring hs2 k' _ _ e2 _ g2 k1' k2' nz2 =>
      have eh := nats_inj (e.symm.trans e2)
      subst eh
      exact (nz2 (t.comes k' k2')).elim
    | ok _ _ _ => rfl
theorem good_nats {xs : List V} (n : Nat) (h : ∀ (j : Nat) y, xs[j]? = some y → numV 0 n y = true) : ∃ hs : List Nat, xs = nats hs ∧ ∀ x ∈ hs, x ≤ n := by
  induction xs with
  | nil => exact ⟨[], rfl, fun _ h => nomatch h⟩
  | cons x r ih =>
    obtain ⟨hs, e, hle⟩ := ih fun j y hy => h (j + 1) y hy
    have hx := h 0 x rfl
    cases x with
    | int i =>
      have hx' : (decide ((0 : Int) ≤ i) && decide (i ≤ (n : Int))) = true := hx
      rw [Bool.and_eq_true, decide_eq_true_eq, decide_eq_true_eq] at hx'
      obtain ⟨m, rfl⟩ := Int.eq_ofNat_of_zero_le hx'.1
      refine ⟨m :: hs, by rw [e]; rfl, fun y hy => ?_⟩
      rcases List.mem_cons.mp hy with rfl | hy
      · omega
      · exact hle y hy
    | _ => cases hx
end Fv
set_option maxRecDepth 100000
set_option maxHeartbeats 1000000
namespace Fv
open PySem PySem.Spec L2
theorem x_mko {C : Addr} {sp : Sp} {dvs : List V} {ta : TA} {σ : L2.St} {H : Hp} {Q : XK} (h : ta σ H fun vs H1 => vs.length ≤ 1000 ∧ ∀ a, H1 a = none → sp (.ref a :: (vs ++ dvs)) (upd H1 a (exo a C none)) (fun v H2 => v = .non ∧ ∃ (d : Addr) (fs : List (Str × V)), H2 a = some (exo a C (some d)) ∧ H2 d = some (exd d fs) ∧ H1 d = none ∧ Q (.ref C) (some d) (upd (del H2 a) d (.xd fs))) (fun _ _ _ => False)) : tMkO C sp dvs ta σ H Q := h
theorem x_ost {K : PySem.W.Frag} {f : Str} {to te : TE} {D : Ends} {σ : L2.St} {H : Hp} (h : te σ H fun y H1 => to σ H1 fun x H2 => ∃ a C : Addr, x = .ref a ∧ OexC K C ∧ PySem.W.findIn K (.ref C) f = some none ∧ ((H2 a = some (exo a C none) ∧ ∀ dx, H2 dx = none → dx ≠ a → D.nx σ (upd (upd H2 dx (exd dx [(f, y)])) a (exo a C (some dx)))) ∨ ∃ (dx : Addr) (fs : List (Str × V)), H2 a = some (exo a C (some dx)) ∧ H2 dx = some (exd dx fs) ∧ fs.length ≤ 900 ∧ D.nx σ (upd H2 dx (exd dx ((f, y) :: fs))))) : tOst K f to te D σ H := h
theorem x_sfld {K : PySem.W.Frag} {ta tv : TE} {f : Str} {D : Ends} {σ : L2.St} {H : Hp} (h : tv σ H fun y H1 => ta σ H1 fun x H2 => ∃ a C dx fs, x = .ref a ∧ H2 a = some (.ins C dx fs) ∧ Cls K C ∧ NoAttr K C f ∧ fs.length < 1000 ∧ D.nx σ (upd H2 a (.ins C dx (putF f y fs)))) : sFld K ta tv f D σ H := h
structure CalM (K : PySem.W.Frag) (f : Addr) (fd : FuncData) (ps : List Str) : Prop where
  k : PySem.W.keepIn K (.ref f) = true
  b : Binds K fd ps []
structure ExcF (K : PySem.W.Frag) (C fI : Addr) (f : Str) : Prop where
  T : OexC K C
  i : PySem.W.findIn K (.ref C) "__init__" = some (some (.ref fI))
  t : PySem.W.typeIn K (.ref fI) = some (.type "function")
  n : PySem.W.findIn K (.ref C) f = some none
def spField (C : Addr) (f : Str) : Sp := fun vs H Q _ => ∃ (a : Addr) (v : V), vs = [.ref a, v] ∧ H a = some (exo a C none) ∧ ∀ dx, H dx = none → dx ≠ a → Q .non (upd (upd H dx (exd dx [(f, v)])) a (exo a C (some dx)))
theorem mk_field {C : Addr} {f : Str} {v : V} {H : Hp} {Q : XK} (h : ∀ d H', Same H H' → H d = none → H' d = some (.xd [(f, v)]) → Q (.ref C) (some d) H') :
    [v].length ≤ 1000 ∧ ∀ a, H a = none → spField C f (.ref a :: ([v] ++ [])) (upd H a (exo a C none)) (fun v H2 => v = .non ∧ ∃ (d : Addr) (fs : List (Str × V)), H2 a = some (exo a C (some d)) ∧ H2 d = some (exd d fs) ∧ H d = none ∧ Q (.ref C) (some d) (upd (del H2 a) d (.xd fs))) (fun _ _ _ => False) := by
  refine ⟨by show 1 ≤ 1000; decide, fun a ha => ⟨a, v, rfl, upd_same, fun dx hd ne => ⟨rfl, dx, [(f, v)], upd_same, ?_, ?_, ?_⟩⟩⟩
  · rw [upd_ne ne, upd_same]
  · rw [upd_ne ne] at hd
    exact hd
  · rw [upd_ne ne] at hd
    refine h dx _ (fun b o e => ?_) hd upd_same
    have nb := ne_of_none e ha
    rw [upd_ne (ne_of_none e hd), del_ne nb, upd_ne nb, upd_ne (ne_of_none e hd), upd_ne nb]
    exact e
end Fv
set_option maxRecDepth 100000
set_option maxHeartbeats 1000000
namespace Fv
open PySem PySem.Spec L2
def dn (l : List Nat) : List PyData := l.map fun (n : Nat) => PyData.int (Int.ofNat n)
theorem dpAll_nats {K : PySem.W.Frag} {H : Hp} : ∀ l : List Nat, DpAll K H (nats l) (dn l)
  | [] => .nil
  | a :: l => .cons (.int _) (dpAll_nats l)
theorem dn_lay : ∀ l : List Nat, PyData.canLayAll0 (dn l) = true
  | [] => rfl
  | a :: l => by
    show (PyData.canLay0 (.int (Int.ofNat a)) && PyData.canLayAll0 (dn l)) = true
    rw [dn_lay l]
    rfl
theorem dn_depth : ∀ l : List Nat, PyData.depthAll (dn l) = 0
  | [] => rfl
  | a :: l => by
    show max (PyData.depth (.int (Int.ofNat a))) (PyData.depthAll (dn l)) = 0
    rw [dn_depth l]
    rfl
theorem dn_shaped (l : List Nat) : SeqAt.shaped (.tuple (dn l)) = true := by
  show (PyData.canLayAll0 (dn l) && decide (PyData.depthAll (dn l) + 1 ≤ 64)) = true
  rw [dn_lay, dn_depth]
  rfl
theorem dn_eqv : ∀ l m : List Nat, PyData.eqvAll (dn l) (dn m) = decide (l = m)
  | [], [] => by simp [dn, PyData.eqvAll]
  | [], _ :: _ => by simp [dn, PyData.eqvAll]
  | _ :: _, [] => by simp [dn, PyData.eqvAll]
  | a :: l, b :: m => by
    show PyData.eqvAll (.int (Int.ofNat a) :: dn l) (.int (Int.ofNat b) :: dn m) = _
    rw [PyData.eqvAll, dn_eqv l m, PyData.eqv, Bool.eq_iff_iff]
    simp
    intro _
    omega
section
variable {K : PySem.W.Frag} {H : Hp} {Q : VK} {a b : Addr} {l m : List Nat}
theorem x_eqTup (h1 : SqT K H a (nats l)) (h2 : SqT K H b (nats m)) (q : Q (.bl (decide (l = m))) H) : rEqD K (.ref a) (.ref b) H Q := by
  refine ⟨.tuple (dn l), .tuple (dn m), .tup h1 (dpAll_nats l), .tup h2 (dpAll_nats m), dn_shaped l, dn_shaped m, ?_⟩
  rw [PyData.eqv, dn_eqv]
  exact q
end
structure IsC (K : PySem.W.Frag) (C : Addr) : Prop where
  cl : Cls K C
  ha : PySem.W.findIn K (.ref C) "__class__" = some (some (.builtin "object.__class__"))
  hn : PySem.W.specialIn K (.builtin "object.__class__") "__get__" = some (some (.builtin "getset_descriptor.__get__"))
  ht : PySem.W.takesIn K (.builtin "object.__class__") = some true
  hm : PySem.W.mroIn K C (.type "object") = some true
  own : PySem.W.kitOne K (.ref C) (.ref C) = some true
  tup : PySem.W.kitOne K (.type "tuple") (.ref C) = some false
section
variable {K : PySem.W.Frag} {H : Hp} {Q : VK} {a C dx : Addr} {fs : List (Str × V)} {xs : List V}
theorem isi_own (c : IsC K C) (h : H a = some (.ins C dx fs)) (q : Q (.bl true) H) : rIsi K [.ref a, .ref C] H Q := ⟨.ref a, .ref C, .ref C, .ref C, true, rfl, .own C, .base (.ins h c.cl c.ha c.hn c.ht c.hm), c.own, q⟩
theorem x_fldQ {te : TE} {f : Str} {σ : L2.St} (h : te σ H fun x H1 => ∃ a C dx fs v, x = .ref a ∧ H1 a = some (.ins C dx fs) ∧ Cls K C ∧ NoAttr K C f ∧ fs.lookup f = some v ∧ Q v H1) : tFld K te f σ H Q := h
end
end Fv
set_option maxRecDepth 100000
set_option maxHeartbeats 1000000
namespace Fv
open PySem PySem.Spec L2 PyProof.Rows
theorem x_make {C : Addr} {sp : Sp} {dvs : List V} {E : XK} {t : TA} {σ : L2.St} {H : Hp} {Q : VK} (h : t σ H fun vs H1 => ∀ x dx, H1 x = none → H1 dx = none → dx ≠ x → sp (.ref x :: (vs ++ dvs)) (upd (upd H1 dx (.own x)) x (.ins C dx [])) (fun v H2 => v = .non ∧ Q (.ref x) H2) E) : tMake C sp dvs E t σ H Q := h
end Fv
set_option maxRecDepth 100000
set_option maxHeartbeats 1000000
namespace Fv
open PySem PySem.Spec L2
section
variable {X : Cx} {K : PySem.W.Frag} {H : Hp} {Q : VK} {a b : Addr} {xs ys : List V} {v : V}
theorem passE {P : Program} {w : World} : Passes (L2.CX P w) X (fun _ _ _ => False) := fun pins σ H s e s' I c => by
  obtain ⟨a, B, H', cls, d, h1, h2, h3, h4, h5, h6, h7, h8⟩ := c
  exact h8.elim
end
end Fv
set_option maxRecDepth 100000
set_option maxHeartbeats 1000000
namespace Fv
open PySem PySem.Spec PyProof.Rows L2
def rRng2 : List V → Hp → VK → Prop := fun vs H Q => ∃ i j, vs = [V.int i, V.int j] ∧ ∀ p, H p = none → Q (.ref p) (upd H p (.rng i j))
theorem call_rng2 {X : Cx} : CallR X (.type "range") rRng2 := cr_range2
def iRngV (te : TE) : TI := fun σ H R => te σ H fun x H1 => ∃ (a : Addr) (lo hi : Int), x = .ref a ∧ H1 a = some (.rng lo hi) ∧ (-(2 ^ 62) ≤ lo ∧ lo < 2 ^ 62 ∧ -(2 ^ 62) ≤ hi ∧ hi < 2 ^ 62) ∧ R (Itr lo (hi - lo).toNat) H1
theorem pi_rngV {X : Cx} {tg e : Expr} {te : TE} (he : PE X e te) : PI X tg e (iRngV te) := by
  refine ⟨fun pins s σ H R I h => thn (he.run pins s σ H _ I h) fun u s1 ⟨x, H1, I1, rx, a, lo, hi, ex, ea, ⟨h1, h2, h3, h4⟩, q⟩ => ?_⟩
  subst ex
  obtain rfl : u = Value.ref a := rx
  obtain ⟨t, u, v, ho⟩ := (show ∃ t u v, s1.heap.get? a = some { cls := .type "range", data := .fields #[.int lo t, .int hi u, .int 1 v] } from I1.hok a _ ea)
  refine wpAny_pyIter_range (a := lo) (b := hi) (c := 1) (t := t) (u := u) (v := v) ho (small_one h1 h2 h3 h4) ?_
  refine ⟨s1.heap.objs.size, [s1.heap.objs.size], _, _, H1, rfl, I1.kept (t' := s1.toks) fun b o e => Heap.get?_push_of_some _ e, turn_range _ lo (hi - lo).toNat, ?_, fun b hb => ?_, q⟩
  · have e1 : lo + ((0 : Nat) : Int) * 1 = lo := by simp
    have e2 : (((hi - lo).toNat : Nat) : Int) - ((0 : Nat) : Int) = Builtin.Range.rangeSize lo hi 1 := by rw [rangeSize_one]; split <;> omega
    show IsRangeIter _ _ (lo + ((0 : Nat) : Int) * 1) ((((hi - lo).toNat : Nat) : Int) - ((0 : Nat) : Int)) 1
    rw [e1, e2]
    exact Heap.get?_push_size _ rfl
  · have e : b = s1.heap.objs.size := by simpa using hb
    subst e
    exact I1.fpOk (Nat.le_refl _) (I1.hok.fresh (Nat.le_refl _))
theorem pg_tupK {X : Cx} {K : PySem.W.Frag} {es : List Expr} {k : Nat} {t : TGs} {n : Nat} {pos : Pos} (eK : X.K = K) (hc : X.calm = true) (h : PGs X es t)
    (hn : (assignEach es X.env).length = n := by rfl) (hst : (assignEach es X.env).findIdx? (·.1) = none := by rfl) : PG X (.Tuple es k pos) (gTup K n t) := by
  subst eK
  exact pg_tup hc h hn hst
section
variable {K : PySem.W.Frag} {σ : L2.St} {H : Hp} {Q : VK} {a p : Addr} {xs : List V} {v : V}
theorem x_rng2v {i j : Int} (q : ∀ p, H p = none → Q (.ref p) (upd H p (.rng i j))) : rRng2 [.int i, .int j] H Q := ⟨i, j, rfl, q⟩
theorem x_irngV {R : It → Hp → Prop} {te : TE} (h : te σ H fun x H1 => ∃ (a : Addr) (lo hi : Int), x = .ref a ∧ H1 a = some (.rng lo hi) ∧ (-(2 ^ 62) ≤ lo ∧ lo < 2 ^ 62 ∧ -(2 ^ 62) ≤ hi ∧ hi < 2 ^ 62) ∧ R (Itr lo (hi - lo).toNat) H1) : iRngV te σ H R := h
theorem atI_last (xs : List V) (v : V) : atI (xs ++ [v]) (-1) = some v := by
  unfold atI ixN
  rw [if_neg (by decide), if_pos (by rw [List.length_append]; show -((xs.length + 1 : Nat) : Int) ≤ -1; omega)]
  show (xs ++ [v])[_]? = _
  have e : ((-1 : Int) + ((xs ++ [v]).length : Nat)).toNat = xs.length := by
    rw [List.length_append]
    show ((-1 : Int) + ((xs.length + 1 : Nat) : Int)).toNat = xs.length
    omega
  first
    | (rw [e]; simp)
    | simp
theorem flat_nats (l : List Nat) : (nats l).all flatV = true := by
  rw [List.all_eq_true]
  intro x hx
  obtain ⟨n, _, rfl⟩ := List.mem_map.mp hx
  rfl
theorem in_nats (k : Nat) : ∀ l : List Nat, inV (.int k) (nats l) = decide (k ∈ l)
  | [] => rfl
  | a :: l => by
    show (eqV (.int a) (.int k) || inV (.int k) (nats l)) = decide (k ∈ a :: l)
    rw [in_nats k l, Bool.eq_iff_iff]
    simp only [Bool.or_eq_true, decide_eq_true_eq, List.mem_cons]
    have e : eqV (.int a) (.int k) = decide ((a : Int) = (k : Int)) := by
      show ((a : Int) == (k : Int)) = _
      rfl
    rw [e, decide_eq_true_eq]
    constructor
    · rintro (h | h)
      · exact .inl (by omega)
      · exact .inr h
    · rintro (h | h)
      · exact .inl (by omega)
      · exact .inr h
theorem x_inNT {k : Nat} {l : List Nat} (h : SqT K H p (nats l)) (q : Q (.bl (decide (k ∈ l))) H) : rIn K false (.int k) (.ref p) H Q := by
  refine ⟨p, _, rfl, .inr h, rfl, flat_nats l, ?_⟩
  show Q (.bl (inV (.int k) (nats l))) H
  rw [in_nats]
  exact q
end
end Fv
set_option maxRecDepth 100000
set_option maxHeartbeats 1000000
namespace Fv
open PySem PySem.Spec PySem.Calls PyProof.Rows
def siA (p : Pos) : Arguments := { posonlyargs := [], args := [{ arg := "self", annotation := none, pos := p }], vararg := none, kwonlyargs := [], kw_defaults := [], kwarg := none, defaults := [] }
def siB (p0 p1 p2 p3 p4 : Pos) : List Stmt := [.Expr (.Call (.Attribute (.Call (.Name "super" p0) [] [] p1) "__init__" p2) [] [] p3) p4]
def siS : Scope := { kind := .function, names := [(PySem.Str.ofString "self", .local), (PySem.Str.ofString "__class__", .free), (PySem.Str.ofString "super", .globalImplicit)], isGenerator := false, isCoroutine := false, more := [] }
def SupEv (p0 p1 p2 p3 : Pos) : Prop := ∀ (q : Str) (L a cc : Addr) (cd : Value), ∃ pl : Sem Bool,
  eval (.Call (.Attribute (.Call (.Name "super" p0) [] [] p1) "__init__" p2) [] [] p3) (PySem.W.ksEnv q siS L a cd cc) = (do
    let o ← attributeBase (.Call (.Name "super" p0) [] [] p1) "__init__" (PySem.W.ksEnv q siS L a cd cc) (eval (.Call (.Name "super" p0) [] [] p1) (PySem.W.ksEnv q siS L a cd cc))
    standAt p2.atName
    let (f, first) ← holding [o] (getMethod o "__init__" pl)
    callWith p3 f first (backTo p3 (starEach [] (PySem.W.ksEnv q siS L a cd cc))) [])
structure SupC (P : Program) (K : PySem.W.Frag) (C fI : Addr) : Prop where
  x : L2.OexC K C
  iC : PySem.W.findIn K (.ref C) "__init__" = some (some (.ref fI))
  tC : PySem.W.typeIn K (.ref fI) = some (.type "function")
  fn : ∃ (oc : Value) (od : Option Addr) (kV doc pm : Value) (an : Option Addr) (cda : Addr) (ct : Value) (osl : Array (Option Value)) (cc : Addr) (q : Str) (p p0 p1 p2 p3 p4 : Pos),
    K.lookup fI = some ⟨oc, od, .func (PySem.W.ksFn "__init__" q (siA p) (siB p0 p1 p2 p3 p4) siS .none kV doc pm an (.ref cda) ct cc), osl⟩ ∧ PySem.W.codeIn K (.ref cda) q = true ∧ (∃ (cl : Value) (cld : Option Addr) (csl : Array (Option Value)), K.lookup cc = some ⟨cl, cld, .cell (some (.ref C)), csl⟩) ∧
    ∃ (ccl : Value) (cdd : Option Addr) (vs : Array Value) (ccs : Array (Option Value)) (file : Str) (tf : Tok), K.lookup cda = some ⟨ccl, cdd, .fields vs, ccs⟩ ∧ vs[2]? = some (.str file tf) ∧ ((P.main.file : Str) == file) = true ∧ SupEv p0 p1 p2 p3
  up : PySem.W.ks_superIn K C C "__init__" = some (some (.builtin "ValueError.__init__"))
  me : PySem.W.mroIn K C (.ref C) = some true
  ve : PySem.W.subIn K (.ref C) (.type "ValueError") = some true
  op : PySem.W.nsIn K cStatics "thirdparty.any" = some none
  tp : (P.main.scope.names.lookup ("super" : Str)).isSome = false
section
variable {P : Program} {w : World} {A : Around} {R : Result → Shared → Prop} {s : Shared} {K : PySem.W.Frag} {C fI : Addr}
theorem sup_init (T : SupC P K C fI) {x t0 : Addr} {mg mb : Str → Option Value} (X : K.In s.heap) (hlim : s.heap.NoLimit) (hg : s.heap.Ns mainGlobals mg) (hms : mg "super" = none) (hb : s.heap.Ns builtinsNs mb) (hbs : mb "super" = some (.type "super"))
    (hx : s.heap.get? x = some (PySem.HandSPX.excO C t0)) (hroom : A.depth < recursionLimit)
    (hq : ∀ h' tk t1, (∀ b o, b ≠ x → s.heap.get? b = some o → h'.get? b = some o) → h'.get? x = some (PySem.HandSPX.excO C t1) → R (.ok (.ret .none)) { s with heap := h', toks := tk }) :
    codeAny (model P w) A (.call (.ref fI) ⟨[.ref x], []⟩) R s := by
  obtain ⟨oc, od, kV, doc, pm, an, cda, ct, osl, cc, q, p, p0, p1, p2, p3, p4, ho, hcd, ⟨cl, cld, csl, hcell⟩, ccl, cdd, vs, ccs, file, tf, hcode, hvs, hfile, hev⟩ := T.fn
  obtain ⟨nm, q', N, bs, bm, sn, sub, ab, col, dd, k0, k1, k2, k3, k5, hC, hbm⟩ := T.x.cls
  have hcl : PySem.W.clsIn K C = some { name := nm, bases := bs, mro := .ref C :: bm, ns := N, qualname := q', hasDict := true, slotNames := sn, subclasses := sub, abstract := ab, collection := col, hasDel := false } := by
    unfold PySem.W.clsIn
    rw [hC] <;> rfl
  refine ks_codeAny_call_defAt (binds := [("self", .ref x)]) hroom (X _ _ ho) rfl hlim (PySem.W.codeRec_of X hcd) rfl (BindsTo.of_eq rfl) (show ∀ x ∈ siS.names, x.2 ≠ NameKind.cell by decide) (fun y hy => ?_) (fun h₁ hns hk₁ => ?_)
  · simp only [List.mem_cons, List.not_mem_nil, or_false] at hy
    subst hy
    rfl
  have X1 : K.In h₁ := X.keeps hk₁
  have hx1 := hk₁ _ _ hx
  have hC1 := X1 _ _ hC
  obtain ⟨hp, g, d, tk, os⟩ := s
  obtain ⟨pl, he⟩ := hev q hp.objs.size fI cc (.ref cda)
  refine ks_wpAt_execs_cons (ks_wpAt_Expr_any (ks_wpAt_MethodCall (pl := pl) ?_ he))
  refine ks_wpAt_super_base rfl rfl rfl rfl (X1 _ _ ho) rfl rfl rfl (X1 _ _ hcode) rfl hvs hfile T.tp ?_
  refine PySem.W.ks_loadName_global rfl rfl (loadGlobal_builtin (hg.keeps hk₁) hms (hb.keeps hk₁) hbs ⟨rfl, ?_⟩)
  refine wpAny_loadName_free rfl rfl rfl ⟨_, X1 _ _ hcell, rfl⟩ ?_
  refine wpAny_loadName_local (v := .ref x) rfl rfl hns rfl ?_
  refine ks_wpAny_isType_cls hC1 rfl ⟨rfl, ?_⟩
  refine ks_wpAny_call_super hC1 rfl hx1 rfl (fun c e => by cases e) (PySem.W.looks_mroIn X1 T.me) (fun h2 hso k2 => ?_)
  have X2 : K.In h2 := X1.keeps k2
  have hx2 := k2 _ _ hx1
  have I2 : PySem.W.InstAt h2 x (PySem.HandSPX.excO C t0) C none := ⟨hx2, rfl, rfl, trivial⟩
  have hup : PySem.W.alongIn K "__init__" (((Value.ref C :: bm).dropWhile (· != Value.ref C)).drop 1) = some (some (.builtin "ValueError.__init__")) := by
    have e := T.up
    unfold PySem.W.ks_superIn at e
    rw [hcl] at e
    exact e
  refine PySem.W.kxs_getMethod PySem.W.kxs_ValueError hso (PySem.W.looks_opaque X2 T.op) (l₀ := .ref C :: bm) ?_ rfl X2 hup (I2.type.andThen (PySem.W.looks_subIn X2 T.ve)) (PySem.W.ks_ne X2 I2 hcl) (by decide) ?_
  · exact fun A Q E s k q => wpAny_bind (PySem.W.looks_clsIn X2 hcl A _ E s k (wpAny_pure q))
  have hu : (h2.push (PySem.W.kxs_mw "ValueError.__init__" x)).get? h2.objs.size = some (PySem.W.kxs_mw "ValueError.__init__" x) := Heap.get?_push_at rfl rfl
  have k3 : ∀ b o, h2.get? b = some o → (h2.push (PySem.W.kxs_mw "ValueError.__init__" x)).get? b = some o := fun b o e => Heap.get?_push_of_some _ e
  refine PySem.W.kxs_callWith (i := "ValueError.__init__") (x := x) rfl (PyProof.Rows.evalArgs_empty ⟨hu, ?_⟩)
  have FB := PySem.F.excBase_ValueError
  have hC3 := k3 _ _ (X2 _ _ hC)
  have hx3 := k3 _ _ hx2
  refine wpAny_call (codeAny_of_tree ?_)
  show wpAny _ _ (callAny (.ref h2.objs.size) ⟨[], []⟩) _ _ _
  unfold callAny
  refine wpAny_bind (wpAny_load hu ?_)
  show wpAny _ _ (if (Value.type "method-wrapper" == Value.type "method" || Value.type "method-wrapper" == Value.type "builtin_function_or_method" || Value.type "method-wrapper" == Value.type "method-wrapper") = true then
    (if (Value.type "method-wrapper" != Value.type "method") = true then (do checkBoundCall "ValueError.__init__" ⟨[.ref x], []⟩; again (.builtin "ValueError.__init__" ⟨[.ref x], []⟩)) else again (.call (.builtin "ValueError.__init__") ⟨[.ref x], []⟩)) else _) _ _ _
  rw [if_pos (by decide), if_pos (by decide)]
  refine wpAny_bind (PySem.W.check_bound_init FB.toExcCallFacts hC3 hx3 rfl (wpAny_pure ⟨PySem.plainId_quiet FB.init.plain _, codeAny_builtin FB.initEntry ?_⟩))
  refine PySem.W.exc_init_tree (cls := .ref C) (t0 := t0) (dv := none) (c2 := .none) (c3 := .none) (b4 := .bool false) hx3 (by rw [sizeLine_eq]; decide) fun h4 k4 hx4 _ => ?_
  show PySem.wpAt _ _ _ (execs [] _) _ _ _
  exact PySem.wpAt_of_wpAny (wpAny_execs_nil (hq h4 _ _ (fun b o nb e => k4 b o nb (k3 _ _ (k2 _ _ (hk₁ _ _ e)))) hx4))
theorem sup_made (T : SupC P K C fI) {mg mb : Str → Option Value} (X : K.In s.heap) (hlim : s.heap.NoLimit) (hg : s.heap.Ns mainGlobals mg) (hms : mg "super" = none) (hb : s.heap.Ns builtinsNs mb) (hbs : mb "super" = some (.type "super")) (hroom : A.depth + 1 < recursionLimit)
    (hq : ∀ h' tk e t1, (∀ b o, s.heap.get? b = some o → h'.get? b = some o) → s.heap.objs.size ≤ e → h'.get? e = some (PySem.HandSPX.excO C t1) → R (.ok (.ret (.ref e))) { s with heap := h', toks := tk }) :
    codeAny (model P w) A (.call (.ref C) ⟨[], []⟩) R s := by
  obtain ⟨nm, q', N, bs, bm, sn, sub, ab, col, dd, k0, k1, k2, k3, k5, hC, hbm⟩ := T.x.cls
  obtain ⟨hp, g, dr, tk, os⟩ := s
  have k : ∀ b o, hp.get? b = some o → ((hp.push (PySem.W.kdv_tup [])).push (PySem.HandSPX.excO C hp.objs.size)).get? b = some o := fun b o e => Heap.get?_push_of_some _ (Heap.get?_push_of_some _ e)
  have hget : ((hp.push (PySem.W.kdv_tup [])).push (PySem.HandSPX.excO C hp.objs.size)).get? (hp.objs.size + 1) = some (PySem.HandSPX.excO C hp.objs.size) := by heap_get
  refine PySem.HandSPX.call_own PySem.F.excBase_ValueError (fun Y => PySem.HandSPX.refsVE_contains Y bm hbm) (X _ _ hC) (PySem.W.looks_findIn X T.iC) (fun self => PySem.W.bind_fn X self T.tC) (by rw [sizeLine_eq]; decide) ?_
  refine sup_init (s := ⟨(hp.push (PySem.W.kdv_tup [])).push (PySem.HandSPX.excO C hp.objs.size), g, dr, tk, os⟩) T (X.keeps k) (hlim.keeps k) (hg.keeps k) hms (hb.keeps k) hbs hget ?_ fun h' tk' t1 k' hx => ?_
  · show A.depth + 1 < recursionLimit
    exact hroom
  · refine ⟨rfl, hq h' tk' (hp.objs.size + 1) t1 (fun b o e => k' b o ?_ (k b o e)) (Nat.le_succ _) hx⟩
    exact Nat.ne_of_lt (Nat.lt_succ_of_lt (Heap.lt_size e))
end
end Fv
namespace Fv
open PySem PySem.Spec PyProof.Rows L2
end Fv
set_option maxRecDepth 100000
set_option maxHeartbeats 1000000
namespace Fv
open PySem PySem.Spec PyProof.Rows L2
end Fv
namespace Fv
def wayN (hs : List Nat) : Nat → Nat → List Nat
  | 0, _ => []
  | n + 1, k => if k = 0 then [] else up hs k :: wayN hs n (up hs k)
def way (hs : List Nat) (k : Nat) : List Nat := wayN hs hs.length k
theorem way_mem (hs : List Nat) (x : Nat) : ∀ n k, x ∈ wayN hs n k ↔ ∃ j, j < n ∧ upN hs j k ≠ 0 ∧ upN hs (j + 1) k = x
  | 0, k => by
    constructor
    · intro h
      cases h
    · rintro ⟨j, h, _⟩
      omega
  | n + 1, k => by
    show x ∈ (if k = 0 then [] else up hs k :: wayN hs n (up hs k)) ↔ _
    by_cases h0 : k = 0
    · rw [if_pos h0]
      constructor
      · intro h
        cases h
      · rintro ⟨j, _, h, _⟩
        rw [h0] at h
        exact (h (upN_zero hs j)).elim
    · rw [if_neg h0, List.mem_cons, way_mem hs x n (up hs k)]
      constructor
      · rintro (rfl | ⟨j, h1, h2, h3⟩)
        · exact ⟨0, by omega, h0, rfl⟩
        · exact ⟨j + 1, by omega, h2, h3⟩
      · rintro ⟨j, h1, h2, h3⟩
        cases j with
        | zero => exact .inl h3.symm
        | succ j => exact .inr ⟨j, by omega, h2, h3⟩
theorem up_get {hs : List Nat} {k : Nat} (h1 : 1 ≤ k) (h2 : k ≤ hs.length) : hs[k - 1]? = some (up hs k) := by
  have h : k - 1 < hs.length := by omega
  rw [List.getElem?_eq_getElem h, up_at (by omega) (List.getElem?_eq_getElem h)]
theorem on_way {hs : List Nat} (t : IsTree hs) {b p : Nat} (hb : 1 ≤ b) (hp : p ≤ hs.length) (n1 : p ≠ b) (n2 : b ∉ way hs p) : ∀ j, upN hs j p ≠ b := by
  intro j e
  cases j with
  | zero => exact n1 e
  | succ j =>
    have nz : upN hs j p ≠ 0 := fun h => by
      rw [upN_succ, h] at e
      have : up hs 0 = 0 := rfl
      omega
    refine n2 ((way_mem hs b _ _).mpr ⟨j, ?_, nz, e⟩)
    refine Nat.lt_of_not_le fun hle => nz ?_
    exact upN_more (t.comes p hp) hle
def put (hs : List Nat) (b p : Nat) : List Nat := hs.set (b - 1) p
theorem put_len (hs : List Nat) (b p : Nat) : (put hs b p).length = hs.length := List.length_set
theorem up_put {hs : List Nat} {b p : Nat} (hb : 1 ≤ b) (hb2 : b ≤ hs.length) (k : Nat) : up (put hs b p) k = if k = b then p else up hs k := by
  unfold up put
  by_cases h0 : k = 0
  · rw [if_pos h0, if_neg (by omega), if_pos h0]
  · rw [if_neg h0, if_neg h0, List.getD_eq_getElem?_getD, List.getElem?_set, List.getD_eq_getElem?_getD]
    by_cases h : k = b
    · subst h
      rw [if_pos rfl, if_pos rfl, if_pos (by omega)]
      rfl
    · rw [if_neg (by omega), if_neg h]
theorem upN_put {hs : List Nat} {b p : Nat} (hb : 1 ≤ b) (hb2 : b ≤ hs.length) {k : Nat} : ∀ j, (∀ i, i < j → upN hs i k ≠ b) → upN (put hs b p) j k = upN hs j k
  | 0, _ => rfl
  | j + 1, h => by
    rw [upN_succ, upN_succ, upN_put hb hb2 j fun i hi => h i (by omega), up_put hb hb2, if_neg (h j (by omega))]
theorem put_tree {hs : List Nat} (t : IsTree hs) {b p : Nat} (hb : 1 ≤ b) (hb2 : b ≤ hs.length) (hp : p ≤ hs.length) (n1 : p ≠ b) (n2 : b ∉ way hs p) : IsTree (put hs b p) := by
  have np := on_way t hb hp n1 n2
  have hle : ∀ x ∈ put hs b p, x ≤ (put hs b p).length := fun x hx => by
    rw [put_len]
    rcases List.mem_or_eq_of_mem_set hx with hx | rfl
    · exact t.le x hx
    · exact hp
  have hpz : upN (put hs b p) hs.length p = 0 := by
    rw [upN_put hb hb2 _ fun i _ => np i]
    exact t.comes p hp
  refine ⟨by rw [put_len]; exact t.pos, by rw [put_len]; exact t.most, hle, fun k hk => ?_⟩
  have hk' : k ≤ hs.length := by rwa [put_len] at hk
  have go : ∀ j, upN hs j k = b → upN (put hs b p) (put hs b p).length k = 0 := by
    intro j
    induction j using Nat.strongRecOn with
    | ind j ih =>
      intro hj
      by_cases hx : ∃ i, i < j ∧ upN hs i k = b
      · obtain ⟨i, hi, e⟩ := hx
        exact ih i hi e
      · have e := upN_put (p := p) hb hb2 (k := k) j fun i hi e => hx ⟨i, hi, e⟩
        refine comes_by (j := j + (1 + hs.length)) hle hk ?_
        rw [upN_add, e, hj, upN_add]
        show upN (put hs b p) hs.length (up (put hs b p) b) = 0
        rw [up_put hb hb2, if_pos rfl]
        exact hpz
  by_cases hx : ∃ j, upN hs j k = b
  · obtain ⟨j, e⟩ := hx
    exact go j e
  · refine comes_by (j := hs.length) hle hk ?_
    rw [upN_put hb hb2 _ fun i _ e => hx ⟨i, e⟩]
    exact t.comes k hk'
def IsOrd (n : Nat) (ms : List Nat) : Prop := ms.Perm (List.range' 1 n)
theorem IsOrd.len {n : Nat} {ms : List Nat} (o : IsOrd n ms) : ms.length = n := by rw [o.length_eq, List.length_range']
theorem IsOrd.mem {n : Nat} {ms : List Nat} (o : IsOrd n ms) {x : Nat} : x ∈ ms ↔ 1 ≤ x ∧ x ≤ n := by
  rw [o.mem_iff, List.mem_range'_1]
  omega
theorem IsOrd.nodup {n : Nat} {ms : List Nat} (o : IsOrd n ms) : ms.Nodup := o.nodup_iff.mpr List.nodup_range'
theorem IsOrd.rg {n k : Nat} {ms : List Nat} (o : IsOrd n ms) (h1 : 1 ≤ k) (h2 : k ≤ n) : 1 ≤ up ms k ∧ up ms k ≤ n := o.mem.mp (List.mem_of_getElem? (up_get h1 (by rw [o.len]; exact h2)))
theorem IsOrd.inj {n k l : Nat} {ms : List Nat} (o : IsOrd n ms) (hk : k ≤ n) (hl : l ≤ n) (e : up ms k = up ms l) : k = l := by
  by_cases hk0 : k = 0
  · subst hk0
    by_cases hl0 : l = 0
    · exact hl0.symm
    · have := (o.rg (k := l) (by omega) hl).1
      rw [← e] at this
      exact absurd this (by show ¬ 1 ≤ 0; omega)
  · by_cases hl0 : l = 0
    · subst hl0
      have := (o.rg (k := k) (by omega) hk).1
      rw [e] at this
      exact absurd this (by show ¬ 1 ≤ 0; omega)
    · have h1 := up_get (hs := ms) (k := k) (by omega) (by rw [o.len]; exact hk)
      have h2 := up_get (hs := ms) (k := l) (by omega) (by rw [o.len]; exact hl)
      rw [e] at h1
      have h3 : k - 1 < ms.length := by rw [o.len]; omega
      have := (List.getElem?_inj h3 o.nodup).mp (h1.trans h2.symm)
      omega
end Fv
set_option maxRecDepth 100000
set_option maxHeartbeats 1000000
namespace Fv
open PySem PySem.Spec L2
section
variable {X : Cx} {K : PySem.W.Frag} {H : Hp} {Q : VK} {σ : L2.St} {a b : Addr} {xs ys : List V} {l m : List Nat}
theorem sl_tupAK (e : X.K = K) : SlR X (rSlA K) := by
  subst e
  exact sl_tupA
theorem op_catAK (e : X.K = K) : OpR X (binaryOp .Add) (rCatA K) := by
  subst e
  exact op_catA
theorem x_slA {lo hi : Option Int} (h : H a = some (.tup xs)) (q : ∀ D H', Same H H' → H' D = some (.tup (cutV xs lo hi)) → Q (.ref D) H') : rSlA K (.ref a) lo hi H Q := by
  refine ⟨a, xs, rfl, .of h, fun hw => ?_, fun _ p hp => q p _ (same_new (Same.refl _) hp) upd_same⟩
  refine q a H (Same.refl _) ?_
  rw [h]
  unfold cutV
  rw [hw.1, hw.2, List.drop_zero, Nat.sub_zero, List.take_length]
theorem x_catA (h1 : H a = some (.tup xs)) (h2 : H b = some (.tup ys)) (hl : xs.length + ys.length ≤ 10000) (q : ∀ D H', Same H H' → H' D = some (.tup (xs ++ ys)) → Q (.ref D) H') : rCatA K (.ref a) (.ref b) H Q := by
  refine ⟨a, b, xs, ys, rfl, rfl, .of h1, .of h2, szLe (by omega), fun e => ?_, fun _ e => ?_, fun _ _ p hp => q p _ (same_new (Same.refl _) hp) upd_same⟩
  · subst e
    exact q b H (Same.refl _) h2
  · subst e
    exact q a H (Same.refl _) (by rw [h1, List.append_nil])
theorem cut_take (xs : List V) (k : Nat) : cutV xs none (some (k : Int)) = xs.take k := by
  unfold cutV
  rw [HT.sIx_none, HT.sIx_nat, List.drop_zero, Nat.sub_zero]
  by_cases h : k ≤ xs.length
  · rw [Nat.min_eq_left h]
  · rw [Nat.min_eq_right (by omega), List.take_length, List.take_of_length_le (by omega)]
theorem cut_drop (xs : List V) (k : Nat) : cutV xs (some (k : Int)) none = xs.drop k := by
  unfold cutV
  rw [HT.sIx_nat, HT.sIx_none]
  by_cases h : k ≤ xs.length
  · rw [Nat.min_eq_left h]
    exact List.take_of_length_le (by rw [List.length_drop]; exact Nat.le_refl _)
  · rw [Nat.min_eq_right (by omega), List.drop_length, List.drop_of_length_le (by omega), List.take_nil]
theorem put_cut {hs : List Nat} {b p : Nat} (h1 : 1 ≤ b) (h2 : b ≤ hs.length) : (nats hs).take (b - 1) ++ [V.int (p : Nat)] ++ (nats hs).drop b = nats (put hs b p) := by
  have e : put hs b p = hs.take (b - 1) ++ p :: hs.drop (b - 1 + 1) := by
    unfold put
    rw [List.set_eq_take_append_cons_drop, if_pos (by omega)]
  rw [e, nats_append, Nat.sub_add_cancel h1, List.append_assoc]
  unfold nats
  rw [List.map_take, List.map_cons, List.map_drop]
  rfl
theorem x_inNL {k : Nat} (h : SqL K H a (nats l)) (q : Q (.bl (decide (k ∈ l))) H) : rIn K false (.int k) (.ref a) H Q := by
  refine ⟨a, _, rfl, .inl h, rfl, flat_nats l, ?_⟩
  show Q (.bl (inV (.int k) (nats l))) H
  rw [in_nats]
  exact q
end
theorem below_mem {hs : List Nat} {b p : Nat} (hp : p ≤ hs.length) : p ∈ (List.range' 1 hs.length).filter (fun c => decide (b ∈ way hs c)) ↔ b ∈ way hs p := by
  rw [List.mem_filter, List.mem_range'_1, decide_eq_true_eq]
  constructor
  · exact fun h => h.2
  · intro h
    refine ⟨⟨?_, by omega⟩, h⟩
    refine Nat.one_le_iff_ne_zero.mpr fun e => ?_
    subst e
    obtain ⟨j, _, nz, _⟩ := (way_mem hs b _ _).mp h
    exact nz (upN_zero hs j)
end Fv
set_option maxRecDepth 100000
set_option maxHeartbeats 1000000
namespace PySem
open Sem (wp)
set_option maxHeartbeats 1000000 in
theorem meets_enumerate_new0 {v : Value} {o : Obj} {H : Heap → Prop} (B : Begins v o H) :
    Meets (Builtin.«enumerate.__new__» ⟨[.type "enumerate", v], []⟩) (fun _ R s => H s.heap ∧
      R (.ok (.ret (.ref (s.heap.push o).objs.size))) { s with heap := (s.heap.push o).push { cls := .type "enumerate", data := .fields #[.none, .bool false, .ref s.heap.objs.size, rawInt 0, .none, .none] } }) :=
  .of_wp fun prog w A R s h => by
    obtain ⟨hp, g, d, tk, os⟩ := s; obtain ⟨h1, h⟩ := h
    have hsub := sub_enumerate
    have q1 : ∀ {A' : Around} {E : Value → Shared → Prop} {Q : Value → Shared → Prop}, Q (.ref hp.objs.size) ⟨hp.push o, g, d, tk, os⟩ → wpAny (model prog w) A' (pyIter v) Q E ⟨hp, g, d, tk, os⟩ :=
      fun q => B.iter prog w _ _ ⟨hp, g, d, tk, os⟩ _ h1 q
    wp_walk using q1
    refine wpAny_stack_any fun st => wpAny_pure ?_
    split
    · rename_i c _ _ _ _ _
      cases (c == Value.type "enumerate")
      · wp_walk using q1
        exact ⟨_, rfl, h⟩
      · wp_walk using q1
        exact ⟨_, rfl, h⟩
    · wp_walk using q1
      exact ⟨_, rfl, h⟩
section
variable {prog : Program} {w : World} {A : Around} {E : Value → Shared → Prop} {s : Shared}
theorem enum_begins0 {v : Value} {o : Obj} {H : Heap → Prop} {Q : Value → Shared → Prop} (B : Begins v o H) (h1 : H s.heap)
    (h : ∀ h', IsEnum h' (s.heap.objs.size + 1) s.heap.objs.size 0 .none → h'.get? s.heap.objs.size = some o → h'.objs.size = s.heap.objs.size + 2 →
      (∀ b o, s.heap.get? b = some o → h'.get? b = some o) → Q (.ref (s.heap.objs.size + 1)) { s with heap := h' }) :
    wpAny (model prog w) A (call (.type "enumerate") [v]) Q E s := by
  refine callType_new F.called_enumerate (by decide) (F.typeCall_enumerate_1 _) (F.newCall_enumerate_1 _) (fun obj => F.args_object_init_2 obj _) F.entry_enumerate_new
    (meets_enumerate_new0 B) ⟨h1, ?_⟩
  have hz : (s.heap.push o).objs.size = s.heap.objs.size + 1 := Heap.size_push ..
  show _ ∧ _
  rw [hz]
  have he : IsEnum ((s.heap.push o).push { cls := .type "enumerate", data := .fields #[.none, .bool false, .ref s.heap.objs.size, rawInt 0, .none, .none] }) (s.heap.objs.size + 1) s.heap.objs.size 0 .none := by
    have := Heap.get?_push_size (s.heap.push o) (o := { cls := .type "enumerate", data := .fields #[.none, .bool false, .ref s.heap.objs.size, rawInt 0, .none, .none] }) rfl
    rw [hz] at this; exact this
  refine ⟨⟨_, he, rfl⟩, h _ he (Heap.get?_push_of_some _ (Heap.get?_push_size _ B.free)) (by rw [Heap.size_push, hz]) fun b o x => Heap.get?_push_of_some _ (Heap.get?_push_of_some _ x)⟩
end
end PySem
namespace Fv
open PySem PySem.Spec L2
theorem pi_enumT0 {X : Cx} {K : PySem.W.Frag} {e : Expr} {ta : TA} {p pos tpos : Pos} {elts : List Expr} {kk : Nat} (eK : X.K = K) (hc : X.calm = true) (hg : Gl X "enumerate") (hm : X.mg "enumerate" = none) (ha : PA X [e] ta) (hs : starEach [e] X.env = [(false, eval e X.env)] := by rfl) :
    PI X (.Tuple elts kk tpos) (.Call (.Name "enumerate" p) [e] [] pos) (iEnT K 0 ta) := by
  subst eK
  refine ⟨fun pins s σ H R I h => ?_⟩
  refine PyProof.Rows.Call_ (ld_blt I hg hm (u := .type "enumerate") (by decide +kernel) (PyProof.Rows.callWith_type1 (thn (ha.run pos pins s σ H _ I h) fun us s1 ⟨vs, H1, I1, r1, t, xs, ex, hq, q⟩ => ?_) hs rfl))
  subst ex
  cases r1 with
  | cons r rr =>
    cases rr
    cases r
    obtain ⟨its, rv, p', hz⟩ := I1.tuple hq
    refine enum_begins0 (begins_tuple t its.toArray) (isTuple_of p') fun h' he hit hsz hkp => wpAny_pyIter_enum he ?_
    have I3 : Inv X pins σ H1 { s1 with heap := h' } := I1.kept (t' := s1.toks) hkp
    have ht : t < s1.heap.objs.size := p'.lt
    have hn : ∀ b, s1.heap.objs.size ≤ b → H1 b = none := fun b hb => I1.hok.fresh hb
    refine ⟨s1.heap.objs.size + 1, [s1.heap.objs.size + 1, s1.heap.objs.size], _, _, H1, rfl, I3, turn_enumT 0 t (s1.heap.objs.size + 1) s1.heap.objs.size (Nat.ne_of_lt ht) (Nat.succ_ne_self _) (Nat.ne_of_gt (Nat.lt_succ_of_lt ht)),
      ⟨⟨.none, ?_⟩, ⟨_, hit, rfl, rfl⟩⟩, fun b hb => ?_, q⟩
    · exact he
    · have hle : s1.heap.objs.size ≤ b := by
        rcases List.mem_cons.mp hb with rfl | hb
        · exact Nat.le_succ _
        · rw [List.mem_singleton.mp hb]
          exact Nat.le_refl _
      exact I1.fpOk hle (hn b hle)
def wdV : Option Bool → V
  | none => .non
  | some b => .bl b
def wds (c : List (Option Bool)) : List V := c.map wdV
def rIsBk : R2 := fun x y H Q => ∃ (o : Option Bool) (b : Bool), x = wdV o ∧ y = .bl b ∧ Q (.bl (decide (o = some b))) H
def rNotBk : R2 := fun x y H Q => ∃ (o : Option Bool) (b : Bool), x = wdV o ∧ y = .bl b ∧ Q (.bl (!decide (o = some b))) H
theorem op_isBk {X : Cx} : OpR X (compareOp .Is) rIsBk := by
  intro pins s σ H x y v u Q I rx ry h
  obtain ⟨o, b, rfl, rfl, q⟩ := h
  cases (show u = Value.bool b from ry)
  cases o with
  | none =>
    cases (show v = Value.none from rx)
    exact wpAny_is_other rfl (fun z => nomatch z) ⟨.bl false, H, I, rfl, by simpa using q⟩
  | some a =>
    cases (show v = Value.bool a from rx)
    by_cases e : a = b
    · subst e
      exact wpAny_is_self rfl ⟨.bl true, H, I, rfl, by simpa using q⟩
    · exact wpAny_is_other rfl (fun z => e (Value.bool.inj z)) ⟨.bl false, H, I, rfl, by simpa [e] using q⟩
theorem op_notBk {X : Cx} : OpR X (compareOp .IsNot) rNotBk := by
  intro pins s σ H x y v u Q I rx ry h
  obtain ⟨o, b, rfl, rfl, q⟩ := h
  cases (show u = Value.bool b from ry)
  cases o with
  | none =>
    cases (show v = Value.none from rx)
    exact wpAny_isNot_other rfl (fun z => nomatch z) ⟨.bl true, H, I, rfl, by simpa using q⟩
  | some a =>
    cases (show v = Value.bool a from rx)
    by_cases e : a = b
    · subst e
      exact wpAny_isNot_self rfl ⟨.bl false, H, I, rfl, by simpa using q⟩
    · exact wpAny_isNot_other rfl (fun z => e (Value.bool.inj z)) ⟨.bl true, H, I, rfl, by simpa [e] using q⟩
theorem x_isBk {H : Hp} {Q : VK} {o : Option Bool} {b : Bool} (q : Q (.bl (decide (o = some b))) H) : rIsBk (wdV o) (.bl b) H Q := ⟨o, b, rfl, rfl, q⟩
def upV : Option Nat → V
  | none => .non
  | some q => .int (q : Nat)
def upvs (us : List (Option Nat)) : List V := us.map upV
theorem wds_length (c : List (Option Bool)) : (wds c).length = c.length := List.length_map ..
theorem upvs_length (c : List (Option Nat)) : (upvs c).length = c.length := List.length_map ..
theorem wds_get {c : List (Option Bool)} {i : Nat} {o : Option Bool} (h : c[i]? = some o) : (wds c)[i]? = some (wdV o) := by
  unfold wds
  rw [List.getElem?_map, h]
  rfl
theorem upvs_get {c : List (Option Nat)} {i : Nat} {o : Option Nat} (h : c[i]? = some o) : (upvs c)[i]? = some (upV o) := by
  unfold upvs
  rw [List.getElem?_map, h]
  rfl
theorem wds_at {c : List (Option Bool)} {i : Nat} {o : Option Bool} (h : c[i]? = some o) : atI (wds c) (i : Int) = some (wdV o) := atI_nat (wds_get h)
theorem upvs_at {c : List (Option Nat)} {i : Nat} {o : Option Nat} (h : c[i]? = some o) : atI (upvs c) (i : Int) = some (upV o) := atI_nat (upvs_get h)
theorem wds_app (c d : List (Option Bool)) : wds (c ++ d) = wds c ++ wds d := List.map_append ..
theorem upvs_app (c d : List (Option Nat)) : upvs (c ++ d) = upvs c ++ upvs d := List.map_append ..
end Fv
set_option maxRecDepth 100000
set_option maxHeartbeats 1000000
namespace Fv
open PySem PySem.Spec PyProof.Rows L2
end Fv
set_option maxRecDepth 100000
set_option maxHeartbeats 1000000
namespace Fv
open PySem PySem.Spec PyProof.Rows L2
def FrT (H : Hp) (a : Addr) (xs : List V) : Prop := ∃ o : Obj, H a = some (.frz o (.tup xs)) ∧ o.cls = .type "tuple" ∧ o.dict = none
theorem FrT.same {H H' : Hp} {a : Addr} {xs : List V} (s : Same H H') (h : FrT H a xs) : FrT H' a xs := by
  obtain ⟨o, e, c, d⟩ := h
  exact ⟨o, s _ _ e, c, d⟩
theorem FrT.but {H H' : Hp} {p a : Addr} {xs : List V} (s : But p H H') (n : a ≠ p) (h : FrT H a xs) : FrT H' a xs := by
  obtain ⟨o, e, c, d⟩ := h
  exact ⟨o, s _ _ n e, c, d⟩
section
variable {X : Cx} {K : PySem.W.Frag} {o e : Expr} {es : List Expr} {to : TE} {t : TA} {name : Str} {apos cpos : Pos} {id : String} {r : V → List V → Hp → VK → Prop}
end
end Fv
namespace Fv
theorem wayN_eq (hs : List Nat) : ∀ m k n, (∀ j, j < n → upN hs j k ≠ 0) → upN hs n k = 0 → n ≤ m → wayN hs m k = (List.range n).map fun i => upN hs (i + 1) k
  | m, k, 0, _, h, _ => by
    have e : k = 0 := h
    subst e
    cases m with
    | zero => rfl
    | succ m => exact if_pos rfl
  | 0, k, n + 1, _, _, h => absurd h (by omega)
  | m + 1, k, n + 1, hn, h, hm => by
    have k0 : k ≠ 0 := hn 0 (by omega)
    show (if k = 0 then [] else up hs k :: wayN hs m (up hs k)) = _
    rw [if_neg k0, wayN_eq hs m (up hs k) n (fun j hj => hn (j + 1) (by omega)) h (by omega), List.range_succ_eq_map, List.map_cons, List.map_map]
    rfl
theorem range_snoc (n : Nat) : List.range' 1 (n + 1) = List.range' 1 n ++ [1 + n] := by
  rw [List.range'_concat, Nat.one_mul]
def kids (hs : List Nat) (p : Nat) : List Nat := (List.range' 1 hs.length).filter fun b => decide (up hs b = p)
def below (hs : List Nat) (p : Nat) : List Nat := (List.range' 1 hs.length).filter fun b => decide (p ∈ way hs b)
theorem filter_snoc (g : Nat → Bool) (n : Nat) : (List.range' 1 (n + 1)).filter g = (List.range' 1 n).filter g ++ if g (n + 1) = true then [n + 1] else [] := by
  rw [range_snoc, List.filter_append, Nat.add_comm 1 n]
  congr 1
  by_cases h : g (n + 1) = true
  · rw [if_pos h, List.filter_cons_of_pos h]
    rfl
  · rw [if_neg h, List.filter_cons_of_neg h]
    rfl
theorem filter_len (g : Nat → Bool) (n : Nat) : ((List.range' 1 n).filter g).length ≤ n := by
  refine Nat.le_trans (List.length_filter_le _ _) ?_
  rw [List.length_range']
  exact Nat.le_refl _
theorem wayN_len (hs : List Nat) : ∀ n k, (wayN hs n k).length ≤ n
  | 0, _ => Nat.le_refl _
  | n + 1, k => by
    show (if k = 0 then [] else up hs k :: wayN hs n (up hs k)).length ≤ n + 1
    split
    · exact Nat.zero_le _
    · exact Nat.succ_le_succ (wayN_len hs n _)
theorem no_ring {hs : List Nat} (t : IsTree hs) {k m : Nat} (hk : k ≤ hs.length) (h0 : k ≠ 0) (hm : 1 ≤ m) : upN hs m k ≠ k := by
  intro e
  have go : ∀ i, upN hs (i * m) k = k := fun i => by
    induction i with
    | zero =>
      rw [Nat.zero_mul]
      rfl
    | succ i ih => rw [Nat.add_mul, Nat.one_mul, upN_add, ih, e]
  have h1 := go hs.length
  have h2 : upN hs (hs.length * m) k = 0 := upN_more (t.comes k hk) (Nat.le_mul_of_pos_right _ hm)
  rw [h2] at h1
  exact h0 h1.symm
def lev (hs : List Nat) (p : Nat) : Nat → List Nat
  | 0 => [p]
  | i + 1 => (lev hs p i).flatMap (kids hs)
def acc (hs : List Nat) (p : Nat) : Nat → List Nat
  | 0 => []
  | i + 1 => acc hs p i ++ lev hs p (i + 1)
end Fv
set_option maxRecDepth 100000
set_option maxHeartbeats 1000000
namespace Fv
open PySem PySem.Spec PyProof.Rows L2
def PrV (H : Hp) (v : V) (x : Nat × Nat) : Prop := ∃ t, v = .ref t ∧ H t = some (.tup [.int (x.1 : Nat), .int (x.2 : Nat)])
def PrsV (H : Hp) : List V → List (Nat × Nat) → Prop
  | [], [] => True
  | v :: vs, x :: xs => PrV H v x ∧ PrsV H vs xs
  | [], _ :: _ => False
  | _ :: _, [] => False
theorem PrV.same {H H' : Hp} {v : V} {x : Nat × Nat} (s : Same H H') (h : PrV H v x) : PrV H' v x := by
  obtain ⟨t, e, h⟩ := h
  exact ⟨t, e, s _ _ h⟩
theorem PrV.mut {H : Hp} {v : V} {x : Nat × Nat} {q : Addr} {ys : List V} {o : HO} (hq : H q = some (.lst ys)) (h : PrV H v x) : PrV (upd H q o) v x := by
  obtain ⟨t, e, h⟩ := h
  refine ⟨t, e, keepM (fun z => ?_) h⟩
  rw [z, hq] at h
  cases h
theorem PrsV.imp {H H' : Hp} (f : ∀ v x, PrV H v x → PrV H' v x) : ∀ {vs : List V} {xs : List (Nat × Nat)}, PrsV H vs xs → PrsV H' vs xs
  | [], [], _ => True.intro
  | _ :: _, _ :: _, h => ⟨f _ _ h.1, PrsV.imp f h.2⟩
  | [], _ :: _, h => h.elim
  | _ :: _, [], h => h.elim
theorem PrsV.same {H H' : Hp} {vs : List V} {xs : List (Nat × Nat)} (s : Same H H') (h : PrsV H vs xs) : PrsV H' vs xs := h.imp fun _ _ k => k.same s
theorem PrsV.mut {H : Hp} {vs : List V} {xs : List (Nat × Nat)} {q : Addr} {ys : List V} {o : HO} (hq : H q = some (.lst ys)) (h : PrsV H vs xs) : PrsV (upd H q o) vs xs := h.imp fun _ _ k => k.mut hq
theorem PrsV.app {H : Hp} : ∀ {vs ws : List V} {xs ys : List (Nat × Nat)}, PrsV H vs xs → PrsV H ws ys → PrsV H (vs ++ ws) (xs ++ ys)
  | [], _, [], _, _, h => h
  | _ :: _, _, _ :: _, _, h, k => ⟨h.1, PrsV.app h.2 k⟩
  | [], _, _ :: _, _, h, _ => h.elim
  | _ :: _, _, [], _, h, _ => h.elim
theorem PrsV.len {H : Hp} : ∀ {vs : List V} {xs : List (Nat × Nat)}, PrsV H vs xs → vs.length = xs.length
  | [], [], _ => rfl
  | _ :: _, _ :: _, h => congrArg (· + 1) (PrsV.len h.2)
  | [], _ :: _, h => h.elim
  | _ :: _, [], h => h.elim
theorem PrsV.at {H : Hp} : ∀ {vs : List V} {xs : List (Nat × Nat)} {i : Nat} {v : V}, PrsV H vs xs → vs[i]? = some v → ∃ x, xs[i]? = some x ∧ PrV H v x
  | [], [], _, _, _, h => by cases h
  | _ :: _, x :: _, 0, _, h, e => by
    have e' := Option.some.inj e
    subst e'
    exact ⟨x, rfl, h.1⟩
  | _ :: _, _ :: _, i + 1, _, h, e => PrsV.at (i := i) h.2 e
  | [], _ :: _, _, _, h, _ => h.elim
  | _ :: _, [], _, _, h, _ => h.elim
def keyOf (H : Hp) (v : V) : Int × Int := match v with
  | .ref t => match H t with
    | some (.tup [.int a, .int b]) => (a, b)
    | _ => (0, 0)
  | _ => (0, 0)
def natsOf (H : Hp) (v : V) : Nat × Nat := ((keyOf H v).1.toNat, (keyOf H v).2.toNat)
theorem PrV.key {H : Hp} {v : V} {x : Nat × Nat} (h : PrV H v x) : keyOf H v = ((x.1 : Int), (x.2 : Int)) := by
  obtain ⟨t, rfl, h⟩ := h
  unfold keyOf
  dsimp only
  rw [h]
theorem PrV.nats {H : Hp} {v : V} {x : Nat × Nat} (h : PrV H v x) : natsOf H v = x := by
  unfold natsOf
  rw [h.key]
  rfl
theorem PrsV.nats {H : Hp} : ∀ {vs : List V} {xs : List (Nat × Nat)}, PrsV H vs xs → vs.map (natsOf H) = xs
  | [], [], _ => rfl
  | v :: vs, x :: xs, h => by rw [List.map_cons, h.1.nats, PrsV.nats h.2]
  | [], _ :: _, h => h.elim
  | _ :: _, [], h => h.elim
theorem PrsV.of {H : Hp} : ∀ {vs : List V}, (∀ v ∈ vs, ∃ x, PrV H v x) → PrsV H vs (vs.map (natsOf H))
  | [], _ => True.intro
  | v :: vs, h => by
    obtain ⟨x, hx⟩ := h v List.mem_cons_self
    exact ⟨by rw [hx.nats]; exact hx, PrsV.of fun w hw => h w (List.mem_cons_of_mem _ hw)⟩
theorem PrsV.all {H : Hp} {vs : List V} {xs : List (Nat × Nat)} (h : PrsV H vs xs) {v : V} (hv : v ∈ vs) : ∃ x, PrV H v x := by
  obtain ⟨i, hi, e⟩ := List.getElem_of_mem hv
  obtain ⟨x, _, hx⟩ := h.at (i := i) (v := v) (by rw [List.getElem?_eq_getElem hi, e])
  exact ⟨x, hx⟩
end Fv
set_option maxRecDepth 100000
set_option maxHeartbeats 1000000
namespace Fv
open PySem PySem.Spec PyProof.Rows L2
def pD (x : Nat × Nat) : PyData := .tuple [.int (Int.ofNat x.1), .int (Int.ofNat x.2)]
def pds (ts : List (Nat × Nat)) : List PyData := ts.map pD
def telPD (r : List Nat) (ts : List (Nat × Nat)) : PyData := .tuple [.tuple (dn r), .tuple (pds ts)]
def TelAt (H : Hp) (v : V) (r : List Nat) (ts : List (Nat × Nat)) : Prop := ∃ (a b c : Addr) (vs : List V), v = .ref a ∧ H a = some (.tup [.ref b, .ref c]) ∧ H b = some (.tup (nats r)) ∧ H c = some (.tup vs) ∧ PrsV H vs ts
theorem TelAt.same {H H' : Hp} {v : V} {r : List Nat} {ts : List (Nat × Nat)} (s : Same H H') (h : TelAt H v r ts) : TelAt H' v r ts := by
  obtain ⟨a, b, c, vs, e, h1, h2, h3, h4⟩ := h
  exact ⟨a, b, c, vs, e, s _ _ h1, s _ _ h2, s _ _ h3, h4.same s⟩
section
variable {K : PySem.W.Frag} {H : Hp} {Q : VK}
theorem PrsV.dp : ∀ {vs : List V} {ts : List (Nat × Nat)}, PrsV H vs ts → DpAll K H vs (pds ts)
  | [], [], _ => .nil
  | v :: vs, x :: xs, h => by
    obtain ⟨t, e, ht⟩ := h.1
    subst e
    exact .cons (.tup (.of ht) (.cons (.int _) (.cons (.int _) .nil))) (PrsV.dp h.2)
  | [], _ :: _, h => h.elim
  | _ :: _, [], h => h.elim
theorem TelAt.dp {v : V} {r : List Nat} {ts : List (Nat × Nat)} (h : TelAt H v r ts) : Dp K H v (telPD r ts) := by
  obtain ⟨a, b, c, vs, e, h1, h2, h3, h4⟩ := h
  subst e
  exact .tup (.of h1) (.cons (.tup (.of h2) (dpAll_nats r)) (.cons (.tup (.of h3) h4.dp) .nil))
end
end Fv
set_option maxRecDepth 100000
set_option maxHeartbeats 1000000
namespace Fv
open PySem PySem.Spec PyProof.Rows L2
section
variable {K : PySem.W.Frag} {H : Hp} {Q : VK} {l b p : Addr} {xs zs : List V}
theorem range0_snoc (g : Nat → Bool) (n : Nat) : (List.range (n + 1)).filter g = (List.range n).filter g ++ if g n = true then [n] else [] := by
  rw [List.range_succ, List.filter_append]
  congr 1
  by_cases h : g n = true
  · rw [if_pos h, List.filter_cons_of_pos h]
    rfl
  · rw [if_neg h, List.filter_cons_of_neg h]
    rfl
end
end Fv
namespace Fv
open PySem PySem.Spec L2
end Fv
namespace Fv
end Fv
namespace Fv
end Fv
namespace Fv
structure WdOk (n : Nat) (us : List (Option Nat)) (ls : List (List (Option Bool))) : Prop where
  n1 : 1 ≤ n
  n2 : n ≤ 40
  ul : us.length = n
  uo : ∀ b q, us[b]? = some (some q) → q ≤ n ∧ q ≠ b + 1
  ll : ls.length = n + 1
  rl : ∀ r ∈ ls, r.length = n
  dg : ∀ p r, ls[p]? = some r → 1 ≤ p → r[p - 1]? = some (some false)
def up1 (us : List (Option Nat)) (b p : Nat) : Nat := match us[b - 1]? with
  | some (some q) => if q = p then 0 else 1
  | _ => 0
def col (ls : List (List (Option Bool))) (b : Nat) : List (Option Bool) := ls.map fun r => (r[b - 1]?).getD none
def wr1 (o p : Nat) : Option Bool → Nat
  | none => 0
  | some f => if f = decide (o = p) then 0 else 1
def sumW (p : Nat) : Nat → List (Option Bool) → Nat
  | _, [] => 0
  | o, f :: r => wr1 o p f + sumW p (o + 1) r
def costN (us : List (Option Nat)) (ls : List (List (Option Bool))) (b p : Nat) : Nat := up1 us b p + sumW p 0 (col ls b)
theorem col_len (ls : List (List (Option Bool))) (b : Nat) : (col ls b).length = ls.length := by
  unfold col
  rw [List.length_map]
end Fv
namespace Fv
structure MinIs (us : List (Option Nat)) (ls : List (List (Option Bool))) (n b m : Nat) : Prop where
  some : ∃ p, p ≤ n ∧ p ≠ b ∧ costN us ls b p = m
  all : ∀ p, p ≤ n → p ≠ b → m ≤ costN us ls b p
theorem MinIs.det {us : List (Option Nat)} {ls : List (List (Option Bool))} {n b m k : Nat} (h : MinIs us ls n b m) (g : MinIs us ls n b k) : m = k := by
  obtain ⟨p, hp, hb, e⟩ := h.some
  obtain ⟨q, hq, hc, f⟩ := g.some
  have h1 := h.all q hq hc
  have h2 := g.all p hp hb
  omega
end Fv
set_option maxRecDepth 100000
set_option maxHeartbeats 1000000
namespace Fv
open PySem PySem.Spec PyProof.Rows L2 RZ
def uD : Option Nat → PyData
  | none => .none
  | some q => .int (Int.ofNat q)
def du (c : List (Option Nat)) : List PyData := c.map uD
end Fv
set_option maxRecDepth 100000
set_option maxHeartbeats 1000000
namespace Fv
open PySem PySem.Spec PyProof.Rows L2
def TsAt (H : Hp) (as : List Addr) (g : Nat → List (Nat × Nat)) : Prop := ∀ p a, as[p]? = some a → ∃ vs, H a = some (.lst vs) ∧ PrsV H vs (g p)
theorem TsAt.same {H H' : Hp} {as : List Addr} {g : Nat → List (Nat × Nat)} (s : Same H H') (h : TsAt H as g) : TsAt H' as g := fun p a e => by
  obtain ⟨vs, h1, h2⟩ := h p a e
  exact ⟨vs, s _ _ h1, h2.same s⟩
theorem TsAt.mut {H : Hp} {as : List Addr} {g : Nat → List (Nat × Nat)} {q : Addr} {ys : List V} {o : HO} (hq : H q = some (.lst ys)) (n : q ∉ as) (h : TsAt H as g) : TsAt (upd H q o) as g := fun p a e => by
  obtain ⟨vs, h1, h2⟩ := h p a e
  exact ⟨vs, keepM (fun z => n (by rw [← z]; exact List.mem_of_getElem? e)) h1, h2.mut hq⟩
theorem TsAt.step {H : Hp} {as : List Addr} {g : Nat → List (Nat × Nat)} {q : Nat} {a U : Addr} {vs : List V} {x : Nat × Nat} (hn : as.Nodup) (h : TsAt H as g) (ha : as[q]? = some a) (hU : H U = some (.tup [.int (x.1 : Nat), .int (x.2 : Nat)])) (hv : H a = some (.lst vs)) (hp : PrsV H vs (g q)) :
    TsAt (upd H a (.lst (vs ++ [.ref U]))) as (fun p => g p ++ if p = q then [x] else []) := fun p b e => by
  have nUa : U ≠ a := fun z => by
    rw [z, hv] at hU
    cases hU
  by_cases hpq : p = q
  · subst hpq
    rw [ha] at e
    cases e
    refine ⟨_, upd_same, ?_⟩
    dsimp only
    rw [if_pos rfl]
    exact (hp.mut hv).app ⟨⟨U, rfl, keepM nUa hU⟩, True.intro⟩
  · obtain ⟨ws, h1, h2⟩ := h p b e
    refine ⟨ws, keepM (fun z => hpq ?_) h1, ?_⟩
    · subst z
      exact (List.getElem?_inj (List.getElem?_eq_some_iff.mp e).1 hn).mp (e.trans ha.symm)
    · dsimp only
      rw [if_neg hpq, List.append_nil]
      exact h2.mut hv
end Fv
set_option maxRecDepth 100000
set_option maxHeartbeats 1000000
namespace Fv
open PySem PySem.Spec PyProof.Rows L2
section
variable {K : PySem.W.Frag} {H : Hp} {Q : VK} {a : Addr} {l : List Nat} {k : Nat}
theorem x_ninNT (h : SqT K H a (nats l)) (q : Q (.bl (!decide (k ∈ l))) H) : rIn K true (.int k) (.ref a) H Q := by
  refine ⟨a, _, rfl, .inr h, rfl, flat_nats l, ?_⟩
  show Q (.bl (!inV (.int k) (nats l))) H
  rw [in_nats]
  exact q
theorem x_ninNL (h : SqL K H a (nats l)) (q : Q (.bl (!decide (k ∈ l))) H) : rIn K true (.int k) (.ref a) H Q := by
  refine ⟨a, _, rfl, .inl h, rfl, flat_nats l, ?_⟩
  show Q (.bl (!inV (.int k) (nats l))) H
  rw [in_nats]
  exact q
end
end Fv
set_option maxRecDepth 100000
set_option maxHeartbeats 4000000
namespace Fv
open PySem PySem.Spec PyProof.Rows L2
section
variable {K : PySem.W.Frag} {H : Hp} {Q : VK} {a : Addr} {v : V}
end
end Fv
set_option maxRecDepth 100000
set_option maxHeartbeats 1000000
namespace Fv
open PySem PySem.Spec PyProof.Rows L2
section
variable {P : Program} {w : World} {K : PySem.W.Frag} {mg : Str → Option Value} {base : Heap} {k : Nat} {f : Addr} {fd : FuncData} {ps : List Str} {sp sp' : Sp}
end
section
variable {K : PySem.W.Frag} {H : Hp} {Q : VK} {a C dx : Addr} {fs : List (Str × V)}
end
end Fv
set_option maxRecDepth 100000
set_option maxHeartbeats 1000000
namespace Fv
open PySem PySem.Spec L2 PyProof.Rows
section
variable {X : Cx} {CX : CXT} {k : Nat} {f C : Addr} {fd : FuncData} {ps : List Str} {sp : Sp} {dvs : List V} {ds : List Value} {E : L2.St → XK} {x : Str} {p pos : Pos} {e : Expr} {es : List Expr} {t : TA}
end
end Fv
set_option maxRecDepth 100000
set_option maxHeartbeats 1000000
namespace Fv
open PySem PySem.Spec PyProof.Rows L2 RZ
def Cm (H : Hp) : Nat → V → V → Bool → Prop
  | 0, x, y, r => sca x = true ∧ sca y = true ∧ r = decide (x = y)
  | n + 1, x, y, r => (sca x = true ∧ sca y = true ∧ r = decide (x = y)) ∨
      (∃ (a b : Addr) (xs ys : List V), x = .ref a ∧ y = .ref b ∧ ((H a = some (.lst xs) ∧ H b = some (.lst ys)) ∨ (H a = some (.tup xs) ∧ H b = some (.tup ys))) ∧ xs.length ≤ 1000 ∧ ys.length ≤ 1000 ∧
        ((xs.length ≠ ys.length ∧ r = false) ∨ (xs.length = ys.length ∧ ∃ rs : List Bool, rs.length = xs.length ∧ r = rs.all id ∧ ∀ i (h1 : i < xs.length) (h2 : i < ys.length) (h3 : i < rs.length), Cm H n xs[i] ys[i] rs[i])))
theorem Cm.same {H H' : Hp} : ∀ {n : Nat} {x y : V} {r : Bool}, Same H H' → Cm H n x y r → Cm H' n x y r
  | 0, _, _, _, _, h => h
  | n + 1, x, y, r, s, h => by
    rcases h with h | ⟨a, b, xs, ys, e1, e2, h1, hx, hy, h⟩
    · exact .inl h
    · refine .inr ⟨a, b, xs, ys, e1, e2, ?_, hx, hy, ?_⟩
      · rcases h1 with ⟨h1, h2⟩ | ⟨h1, h2⟩
        · exact .inl ⟨s _ _ h1, s _ _ h2⟩
        · exact .inr ⟨s _ _ h1, s _ _ h2⟩
      · rcases h with h | ⟨hl, rs, r1, r2, h⟩
        · exact .inl h
        · exact .inr ⟨hl, rs, r1, r2, fun i k1 k2 k3 => (h i k1 k2 k3).same s⟩
end Fv
set_option maxRecDepth 100000
set_option maxHeartbeats 1000000
namespace Fv
open PySem PySem.Spec PySem.SeqAt PyProof.Rows L2
section
variable {prog : Program} {w : World} {A : Around} {E : Value → Shared → Prop} {s : Shared}
end
section
variable {X : Cx}
end
section
variable {prog : Program} {w : World} {A : Around} {E : Value → Shared → Prop} {s : Shared}
end
section
variable {H : Hp} {Q : VK} {xs : List V} {kvs : List (Key × V)}
end
end Fv
set_option maxRecDepth 100000
set_option maxHeartbeats 2000000
namespace Fv
open PySem PySem.Spec PyProof.Rows L2
theorem upSlots_of {h h' : Heap} (k : ∀ b o, h.get? b = some o → h'.get? b = some o) : h.UpToSlots h' := fun b o e _ => ⟨o.slots, k b o e⟩
theorem flying_of {B h h' : Heap} {l : List Env} {a : Addr} {Z : Obj → Prop} (k : ∀ b o, h.get? b = some o → h'.get? b = some o) (x : HandSPX.FlyingZ B l a Z h) : HandSPX.FlyingZ B l a Z h' := by
  obtain ⟨k1, k2, k3, oe, vs, T, oT, ts, t1, t2, t3, t4, t5, t6, t7, t8⟩ := x
  exact ⟨fun b o e => k _ _ (k1 b o e), k2, k3.of_keeps fun b o e _ => ⟨o, k _ _ e, rfl⟩, oe, vs, T, oT, ts, k _ _ t1, t2, t3, t4, t5, t6, k _ _ t7, t8⟩
theorem unframed {B h : Heap} {l : List Env} {a : Addr} {o : Obj} {vs : Array Value} (ff : h.FunFrames B l) (e : h.get? a = some o) (dd : o.data = .fields vs) : a ∉ frs l := fun hm => by
  obtain ⟨_, u, e', nf⟩ := ff.mem hm
  rw [e] at e'
  cases e'
  exact nf _ dd
section
variable {X : Cx} {x n : Str} {c : Value} {i : Nat} {body suite : List Stmt} {b₀ : Stmt} {np pos pos' : Pos} {tb : WX → TS} {ts : Addr → Value → Option Addr → TS} {hds : List ExceptHandler}
theorem sp_untry {xe : Value → Shared → Prop} {pins : List (Addr × Obj)} {D : Ends} {f : Flow} {s1 : Shared} (ok : X.Ok) (h : SP (X.tr (X.pn ++ pins) xe) [] D f s1) : SP X pins D f s1 := by
  cases f with
  | next =>
    obtain ⟨σ', H', J, q⟩ := h
    exact ⟨σ', H', J.ofTry ok, q⟩
  | brk =>
    obtain ⟨σ', H', J, q⟩ := h
    exact ⟨σ', H', J.ofTry ok, q⟩
  | cont =>
    obtain ⟨σ', H', J, q⟩ := h
    exact ⟨σ', H', J.ofTry ok, q⟩
  | ret u =>
    obtain ⟨v, σ', H', J, r, q⟩ := h
    exact ⟨v, σ', H', J.ofTry ok, r, q⟩
end
def wTup3 (K : PySem.W.Frag) (c1 c2 c3 : Value) (ts : Addr → Value → Option Addr → TS) (D : Ends) : WX := fun cls d σ H => PySem.W.exmAny K cls [c1, c2, c3] = some true ∧ ∀ a, H a = none → ts a cls d D σ H
section
variable {X : Cx} {x1 x2 x3 : Str} {c1 c2 c3 : Value} {body suite : List Stmt} {b₀ : Stmt} {n1 n2 n3 tpos pos pos' : Pos} {k : Nat} {tb : WX → TS} {ts : Addr → Value → Option Addr → TS} {hds : List ExceptHandler} {Wout : WX}
theorem ps_try_tup3 (hs : X.stack = X.env :: X.outer) (hf : X.env.frame = some X.env.locals) (w1 : Names X x1 c1) (w2 : Names X x2 c2) (w3 : Names X x3 c3) (hpa : ∀ hd : Option Value, PassesOwnAt (model X.prog X.w) (X.A.mark hd) X.A X.env X.xe) (tk : L2.Takes X Wout)
    (hb : ∀ (W : WX) (pn : List (Addr × Obj)) (xe : Value → Shared → Prop), L2N.Takes (X.tr pn xe) W → PassesOwn (model X.prog X.w) X.A X.env xe → PSs (X.tr pn xe) body (tb W))
    (hsu : ∀ (a : Addr) (oe : Obj) (cls : Value) (d : Option Addr) (pn : List (Addr × Obj)), L2N.Zn cls d oe → (∃ vs, oe.data = .fields vs) → L2.Takes (L2H.suiteX X a ((a, oe) :: pn)) Wout → L2H.HotC (L2H.suiteX X a ((a, oe) :: pn)) →
      PSs (L2H.suiteX X a ((a, oe) :: pn)) (b₀ :: suite) (ts a cls d))
    (ha : starEach [.Name x1 n1, .Name x2 n2, .Name x3 n3] X.env = [(false, eval (.Name x1 n1) X.env), (false, eval (.Name x2 n2) X.env), (false, eval (.Name x3 n3) X.env)] := by rfl) :
    PS X (.Try body (.ExceptHandler (some (.Tuple [.Name x1 n1, .Name x2 n2, .Name x3 n3] k tpos)) none (b₀ :: suite) pos' :: hds) [] [] pos) (fun D σ H => tb (wTup3 X.K c1 c2 c3 ts D) D σ H) := by
  constructor
  intro pins s σ H D I h
  have ok := I.ok
  have fr : X.A.frames = some (X.env :: X.outer) := ok.frames.trans (by rw [hs])
  refine wpAny_Try_except (wpAny_mono ((hb (wTup3 X.K c1 c2 c3 ts D) (X.pn ++ pins) (fun e s₁ => wpAny (model X.prog X.w) X.A (noteFrame e X.env) (fun _ s₂ => wpAny (model X.prog X.w) X.A (setFlight e none) (fun _ s₃ =>
    wpAny (model X.prog X.w) X.A (handleBy e X.env (.ExceptHandler (some (.Tuple [.Name x1 n1, .Name x2 n2, .Name x3 n3] k tpos)) none (b₀ :: suite) pos' :: hds)) (SP X pins D) X.xe s₃) X.xe s₂) X.xe s₁) (fun u s' xx => ?_) PassesOwn.looking).run [] s σ H D (I.toTry _) h) (fun f s1 hsp => ?_) (fun _ _ he => he))
  · obtain ⟨a, B, sI, ps', σ', H', cls, d, rfl, J', nb, up, sky, na, os, ag, hit, hyes⟩ := xx
    have J : Inv X pins σ' H' sI := J'.ofTry ok
    rw [show (X.tr (X.pn ++ pins) _).stack = X.env :: X.outer from hs] at sky
    refine L2N.Sky.land (L := X.env.locals) L2N.Zn.steady fr hf sky fun h3 fl3 up3 => ?_
    obtain ⟨o3, v3, g3, z3, d3⟩ := fl3.there
    have J3 : Inv X pins σ' H' { s' with heap := h3 } := J.landed nb fl3.1 (up.trans up3) os ag
    have nfr := unframed fl3.2.2.1 g3 d3
    have nL : a ≠ X.env.locals := fun z => nfr (List.mem_filterMap.mpr ⟨X.env, List.mem_cons_self, by rw [hf, z]⟩)
    have nF : a ∉ X.fs := fun hm => by
      obtain ⟨e, he, q⟩ := List.mem_filterMap.mp hm
      exact nfr (List.mem_filterMap.mpr ⟨e, List.mem_cons_of_mem _ he, q⟩)
    have S3 := J3.suite g3 d3 na nL nF
    have nm : ∀ {x : Str} {c : Value} {p : Pos} {Q : Value → Shared → Prop} {E : Value → Shared → Prop}, Names X x c → Q c { s' with heap := h3 } → wpAny (model X.prog X.w) (X.A.mark (some (.ref a))) (eval (.Name x p) X.env) Q E { s' with heap := h3 } := fun {x c p Q E} hc q => by
      rcases hc with ⟨hg, hd, hm | ⟨hm, hv, hn⟩⟩
      · exact ld_glob (X := X.suite a ((a, o3) :: (X.pn ++ pins))) S3 hg hm q hd
      · exact ld_blt (X := X.suite a ((a, o3) :: (X.pn ++ pins))) S3 hg hm hv q hn hd
    have ext : ∀ b o, h3.get? b = some o → (h3.push { cls := .type "tuple", data := .seq [c1, c2, c3].toArray }).get? b = some o := fun b o e => Heap.get?_push_of_some _ e
    have ty : PySem.W.Looks (model X.prog X.w) (h3.push { cls := .type "tuple", data := .seq [c1, c2, c3].toArray }) (typeOf (.ref a)) cls := fun A Q E s k q => wpAny_typeOf_ref (k _ _ (ext _ _ g3)) (by rw [z3.1]; exact q)
    have mt := PySem.W.exm_tup3 (M := model X.prog X.w) (J3.kIn.keeps ext) ty (Heap.get?_push_size h3 rfl) hit
    have flX := flying_of ext fl3
    refine wpAny_handleBy_cons (codeAny_handlers_test (wpAny_Tuple_spliced ?_)) (by intro q; cases q)
    rw [ha]
    refine Calls.spliced_cons (nm w1 (Calls.spliced_cons (nm w2 (Calls.spliced_cons (nm w3 (Calls.spliced_nil ⟨by show 3 ≤ sizeLine; decide, mt.here ?_⟩))))))
    refine codeAny_handlers_suite (HandSPX.lands_againZ flX fun h4 fl4 up4 => ?_)
    obtain ⟨o4, v4, g4, z4, d4⟩ := fl4.there
    have J4 : Inv X pins σ' H' { s' with heap := h4 } := J.landed nb fl4.1 (((up.trans up3).trans (upSlots_of ext)).trans up4) os ag
    have S4 := J4.suite g4 d4 na nL nF
    have tkS : L2.Takes (L2H.suiteX X a ((a, o4) :: (X.pn ++ pins))) Wout := fun u2 s2 ⟨a2, B2, t2, p2, σ2, H2, c2, e2, q1, q2, q3, q4, q5, q6, q7, q8, q9⟩ => tk u2 s2 ⟨a2, B2, t2, pins, σ2, H2, c2, e2, q1, L2H.unsuiteX q2 ok, q3, q4, q5, q6, q7, q8, q9⟩
    have hot : L2H.HotC (L2H.suiteX X a ((a, o4) :: (X.pn ++ pins))) := ⟨(a, o4), ⟨rfl, v4, d4, z4.2.2 v4 d4⟩, List.mem_cons_self⟩
    refine wpAny_mono ((hsu a o4 cls d (X.pn ++ pins) z4 ⟨_, d4⟩ tkS hot).run [] _ _ H' _ (L2H.suiteX_of S4) (hyes a na)) (fun f s6 hsp => ?_) (fun e6 s6 z => hpa (some (.ref a)) e6 s6 z)
    cases f with
    | next =>
      obtain ⟨σ6, H6, S6, q6⟩ := hsp
      exact ⟨_, _, L2H.unsuiteX S6 ok, q6⟩
    | brk =>
      obtain ⟨σ6, H6, S6, q6⟩ := hsp
      exact ⟨_, _, L2H.unsuiteX S6 ok, q6⟩
    | cont =>
      obtain ⟨σ6, H6, S6, q6⟩ := hsp
      exact ⟨_, _, L2H.unsuiteX S6 ok, q6⟩
    | ret u =>
      obtain ⟨v6, σ6, H6, S6, r6, q6⟩ := hsp
      exact ⟨_, _, _, L2H.unsuiteX S6 ok, r6, q6⟩
  · have hsp' := sp_untry ok hsp
    cases f with
    | next => exact wpAny_execs_nil hsp'
    | brk => exact hsp'
    | cont => exact hsp'
    | ret u => exact hsp'
end
end Fv
set_option maxRecDepth 100000
set_option maxHeartbeats 1000000
namespace Fv
open PySem PySem.Spec PyProof.Rows L2
theorem pmk_supN {X : Cx} {C fI : Addr} {x : Str} {p pos : Pos} (T : SupC X.prog X.K C fI) (hr : Room 1 X.A) (hg : Gl X x) (hm : X.mg x = some (.ref C)) (hs : X.mg "super" = none) (hdb : (x == ("__debug__" : Str)) = false := by decide) :
    L2N.PMk X (.Call (.Name x p) [] [] pos) (fun _ H Q => Q (.ref C) none H) := by
  intro pins s σ H Q I h
  refine wpAny_Call_Name_kw (ld_glob I hg hm ?_ hdb)
  refine PySem.W.callWith_K0 I.kIn T.x.kC ?_
  obtain ⟨mb, hb1, hb2⟩ := I.mod.blt
  have hlim := I.nolimit
  have hgl : s.heap.Ns mainGlobals X.mg := I.mod.glob.keeps I.bk
  have hbl : s.heap.Ns builtinsNs mb := hb1.keeps I.bk
  obtain ⟨hp, g, d, t, os⟩ := s
  refine wpAny_call (sup_made T I.kIn hlim hgl hs hbl ((hb2 "super" (by decide)).trans (by first | rfl | decide +kernel | kernel_rfl)) (by have := hr.dp; omega) fun h' tk' e t1 k ge hx => ?_)
  obtain ⟨G', g1, g2⟩ := restrict h' fun b => decide (b ≠ e)
  have gk : ∀ b, b ≠ e → G'.get? b = h'.get? b := fun b hb => g1 b (decide_eq_true hb)
  have g0 : G'.get? e = none := g2 e (by simp)
  have old : ∀ b o, hp.get? b = some o → G'.get? b = some o := fun b o q => (gk b (Nat.ne_of_lt (Nat.lt_of_lt_of_le (Heap.lt_size q) ge))).trans (k b o q)
  have J : Inv X pins σ H ⟨G', g, d, tk', os⟩ := I.kept (t' := tk') old
  refine ⟨e, _, _, ⟨G', g, d, tk', os⟩, H, .ref C, none, rfl, J, fun b o q => ?_, g0, hx, ⟨rfl, rfl, fun vs hv => by cases hv; rfl⟩, rfl, rfl, I.hok.fresh ge, rfl, I.bare, raises_own T.x.exC T.x.tyC, h⟩
  by_cases hb : b = e
  · have q' : G'.get? b = some o := q
    rw [hb, g0] at q'
    cases q'
  · exact (gk b hb).symm.trans q
section
variable {P : Program} {w : World} {K : PySem.W.Frag} {mg : Str → Option Value} {base : Heap}
theorem okN {x qual : Str} {st : Stmt} {f : Addr} {fd : FuncData} {N ps : List Str} {k : Nat} {sp : Sp} (F : Fun K x qual st f fd) (S : FnScope N ps (defScope st)) (len : ∀ vs H Q E, sp vs H Q E → vs.length = ps.length)
    (hbody : ∀ (cdv : Value) (A : Around) (outer : List Env) (s : Shared) (H : Hp) (vs : List V) (Q : VK) (E : XK), Room k (A.deeper (envOfC qual (defScope st) s.heap.objs.size f cdv)) → sp vs H Q E →
      ∃ t, PSs (cxOf (L2N.CX P w) P w K mg base N qual (defScope st) f cdv A outer s H E) (defBody st) t ∧ t { nx := fun _ H' => Q .non H', rt := Q } (L2.start N vs) H) : FnOk P w K mg base (L2N.CX P w) (k + 1) f fd ps sp := by
  obtain ⟨oc, od, kV, doc, pm, an, cdv, ct, osl, rfl, lk, hcd⟩ := F.ex
  exact fn_of lk hcd S len fun A outer s H vs Q E hr hsp => hbody cdv A outer s H vs Q E hr hsp
theorem okH {x qual : Str} {st : Stmt} {f : Addr} {fd : FuncData} {N ps : List Str} {k : Nat} {sp : Sp} (F : Fun K x qual st f fd) (S : FnScope N ps (defScope st)) (len : ∀ vs H Q E, sp vs H Q E → vs.length = ps.length)
    (hbody : ∀ (cdv : Value) (A : Around) (outer : List Env) (s : Shared) (H : Hp) (vs : List V) (Q : VK) (E : XK) (p : Addr × Obj), sp vs H Q E →
      ∃ t, PSs (L2H.cxH CX0 P w K mg base N qual (defScope st) f cdv A outer s H E p) (defBody st) t ∧ t { nx := fun _ H' => Q .non H', rt := Q } (L2.start N vs) H) : L2H.FnH P w K mg base CX0 (k + 1) f fd ps sp := by
  obtain ⟨oc, od, kV, doc, pm, an, cdv, ct, osl, rfl, lk, hcd⟩ := F.ex
  exact L2H.fn_ofH lk hcd S len fun A outer s H vs Q E p _ _ hsp => hbody cdv A outer s H vs Q E p hsp
end
theorem x_callS {sp : Sp} {E : L2.St → XK} {t : TA} {σ : L2.St} {H : Hp} {Q : VK} (h : t σ H fun vs H1 => sp vs H1 Q (E σ)) : tCallS sp E t σ H Q := h
end Fv
set_option maxRecDepth 100000
set_option maxHeartbeats 4000000
namespace L2
open PySem PySem.Spec PyProof.Rows
section
variable {P : Program} {w : World} {A : Around} {E : Value → Shared → Prop} {s : Shared}
set_option maxHeartbeats 3200000 in
theorem lset_call {l : Addr} {items : Array Value} (ns : List Int) {Q : Value → Shared → Prop} (hh : A.handled = none) (hl : s.heap.IsList l items) (hit : IntsAre items.toList ns) (hb : ns.length + 1 < scanBound)
    (h : ∀ (h' : Heap) (tk c : Nat), SetR w h' s.heap.objs.size (fun j => decide (j ∈ ns)) c → c ≤ ns.length → (∀ b o, s.heap.get? b = some o → h'.get? b = some o) → Q (.ref s.heap.objs.size) { s with heap := h', toks := tk }) :
    wpAny (model P w) A (call (.type "set") [.ref l]) Q E s := by
  have hn : items.size = ns.length := by rw [← Array.length_toList]; exact IntsAre.length hit
  obtain ⟨c, tl, hmro⟩ := F.called_set.mro
  have hmade := F.called_set.made
  have hsub := F.called_set.sub
  have h1 := F.called_set.notType
  have h2 := F.called_set.canCreate
  have hct := F.typeCall_set_1 (.ref l)
  refine wpAny_call (codeAny_of_tree ?_)
  show wpAny _ _ (callAny (.type "set") _) _ _ _
  refine wpAny_pure ⟨Code.quiet_builtin _ (by decide +kernel), codeAny_builtin F.entry_type_call ?_⟩
  rw [Around.under_plain (weight_type_call_type "set" [.ref l] []) rfl]
  repeat (any_goals (first | assumption | wp_step))
  generalize ho : ({ cls := .type "set", dict := none, data := .set #[] 0 (.fresh 0 0 (!w.params.followText "set-order")) } : Obj) = ob
  refine codeAny_mono (code_set_led1 (.ref l) (E := E) (Q₁ := fun x t => x = .ref s.heap.objs.size ∧ t = { s with heap := s.heap.push ob }) ⟨rfl, by rw [ho]⟩) fun r t hr => ?_
  cases r with
  | error e => exact hr
  | ok fl =>
    cases fl with
    | ret x =>
      obtain ⟨rfl, rfl⟩ := hr
      have hS : (s.heap.push ob).get? s.heap.objs.size = some ob := Heap.get?_push_size _ (by rw [← ho]; rfl)
      have hT : Shared.TypeIs { s with heap := s.heap.push ob } (.ref s.heap.objs.size) "set" := ⟨_, hS, by rw [← ho]⟩
      have hli := F.called_set.init.lookup
      have hbi := F.called_set.init.bind (.ref s.heap.objs.size)
      repeat (any_goals (first | assumption | wp_step))
      refine codeAny_mono (codeAny_call_builtin (R := wants (fun r t => r = .none ∧ ∃ h' tk c, t = { s with heap := h', toks := tk } ∧ SetR w h' s.heap.objs.size (fun j => decide (j ∈ ns)) c ∧ c ≤ ns.length ∧
          (∀ b o, s.heap.get? b = some o → h'.get? b = some o)) E) F.called_set.init.plain F.entry_set_init (check_set_init_1 hT ?_)) fun r2 t2 hr2 => ?_
      · have hl0 : (s.heap.push ob).IsList l items := hl.push _
        obtain ⟨ol, hol, hcl, nl, hdl⟩ := hl
        obtain ⟨ocls, odict, odata, oslots⟩ := ol
        simp only at hcl hdl
        subst hcl hdl
        have hol' : (s.heap.push ob).get? l = some { cls := .type "list", dict := odict, data := .seq items nl, slots := oslots } := Heap.get?_push_of_some _ hol
        have e1 := F.sub_list_set
        have e2 := F.sub_list_frozenset
        have hne : (Value.type "list" == Value.type "dict") = false := by decide
        have lt : l < s.heap.objs.size := Heap.lt_size hol
        have sz : (s.heap.push ob).objs.size = s.heap.objs.size + 1 := Heap.size_push ..
        have hneI : l ≠ (s.heap.push ob).objs.size := by rw [sz]; exact Nat.ne_of_lt (Nat.lt_succ_of_lt lt)
        have hSf : s.heap.objs.size ∉ [(s.heap.push ob).objs.size, l] := by
          rw [sz]
          simp only [List.mem_cons, List.not_mem_nil, or_false, not_or]
          exact ⟨Nat.ne_of_lt (Nat.lt_succ_self _), Nat.ne_of_gt lt⟩
        have hh3 : A.in1.in1.in1.handled = none := by simp [hh]
        subst ho
        unfold Builtin.«set.__init__» noKeywords Builtin.Frozenset.updateFrom
        generalize hPI : pyIter = PI
        wp_walk
        subst hPI
        refine wpAny_pyIter_list hl0 ?_
        refine wpAny_bind (wpAny_runValue ?_)
        have hv : ∀ (i : Nat) (v : Value), items[i]? = some v → ∃ k t, ns[i]? = some k ∧ v = .int k t := fun i v hv => by
          have hi : i < ns.length := by rw [← hn]; exact (Array.getElem?_eq_some_iff.mp hv).1
          obtain ⟨t, e⟩ := IntsAre.int_at hit i v (by rw [Array.getElem?_toList]; exact hv)
          refine ⟨ns[i], t, List.getElem?_eq_getElem hi, ?_⟩
          rw [e, List.getD_eq_getElem?_getD, List.getElem?_eq_getElem hi] <;> rfl
        refine set_update_ints ((Walks.list hh3 _ l hneI items).toS) s.heap.objs.size hSf ns hn hb hv (items.size - 0) 0 _ (by omega) (Nat.zero_le _) ⟨⟨_, Heap.get?_push_size _ rfl, rfl, rfl⟩, hl0.push _⟩ ?hZero ?hRest
        case hZero => exact ⟨0, Nat.le_refl 0, setR_new_at (Heap.get?_push_of_some _ hS)⟩
        case hRest =>
          intro t' c' hm hc' hS'
          obtain ⟨h', g2, d', tk', os'⟩ := t'
          obtain rfl : g2 = s.gens := hm.gens
          obtain rfl : d' = s.drawn := hm.drawn
          obtain rfl : os' = s.os := hm.os
          show wpAny _ _ _ _ _ _
          refine wpAny_pure ?_
          show wpAny _ _ (ret Value.none) _ _ _
          rw [hn] at hc'
          refine wpAny_pure ⟨rfl, h', tk', c', rfl, hS', hc', fun b o e => ?_⟩
          have hb0 : b < s.heap.objs.size := Heap.lt_size e
          refine hm.heap b o ?_ (Heap.get?_push_of_some _ (Heap.get?_push_of_some _ e))
          rw [sz]
          simp only [List.mem_cons, List.not_mem_nil, or_false, not_or]
          exact ⟨Nat.ne_of_lt hb0, Nat.ne_of_lt (Nat.lt_succ_of_lt hb0)⟩
      · cases r2 with
        | error e => exact hr2
        | ok fl2 =>
          cases fl2 with
          | ret r =>
            obtain ⟨rfl, h', tk, c', rfl, hS', hc', hk'⟩ := hr2
            repeat (any_goals (first | assumption | wp_step))
            exact h _ _ _ hS' hc' hk'
          | _ => exact hr2.elim
    | _ => exact hr.elim
end
section
variable {X : Cx}
def rSetLi (K : PySem.W.Frag) (w : World) : List V → Hp → VK → Prop := fun xs H Q => ∃ (l : Addr) (ns : List Int), xs = [.ref l] ∧ SqL K H l (ns.map V.int) ∧ ns.length < 60 ∧ ∀ p c, H p = none → c ≤ ns.length → Q (.ref p) (upd H p (SetO w p (fun j => decide (j ∈ ns)) c))
theorem cr_setLi (hc : X.calm = true) : CallR X (.type "set") (rSetLi X.K X.w) := by
  intro pins s σ H vs us Q I r h
  obtain ⟨l, ns, rfl, hl, h60, q⟩ := h
  rw [Vals.ref1 r]
  obtain ⟨its, rv, p, hz⟩ := I.list hl
  refine lset_call ns (I.ok.hd hc) p.isList (by rw [List.toList_toArray]; exact ints_of_vals rv) (by unfold scanBound; omega) fun h' tk c R hcn k => ?_
  exact ⟨.ref _, _, I.laid (t' := tk) k (Nat.le_refl _) (setO_new R), rfl, q _ _ (I.hok.fresh (Nat.le_refl _)) hcn⟩
end
end L2
set_option maxRecDepth 100000
set_option maxHeartbeats 1000000
namespace Fv
open PySem PySem.Spec PyProof.Rows L2
def ErV (H : Hp) (v : V) (C : Addr) (fs : List (Str × V)) : Prop := ∃ a, v = .ref a ∧ ((H a = some (exo a C none) ∧ fs = []) ∨ ∃ dx, H a = some (exo a C (some dx)) ∧ H dx = some (exd dx fs))
theorem ErV.same {H H' : Hp} {v : V} {C : Addr} {fs : List (Str × V)} (s : Same H H') (h : ErV H v C fs) : ErV H' v C fs := by
  obtain ⟨a, e, h⟩ := h
  refine ⟨a, e, ?_⟩
  rcases h with ⟨h, z⟩ | ⟨dx, h1, h2⟩
  · exact .inl ⟨s _ _ h, z⟩
  · exact .inr ⟨dx, s _ _ h1, s _ _ h2⟩
section
variable {X : Cx} {K : PySem.W.Frag}
end
end Fv
set_option maxRecDepth 100000
set_option maxHeartbeats 1000000
namespace Fv
open PySem PySem.Spec PyProof.Rows L2
theorem units1 {k : Nat} {A : Around} (r : Room k A) : A.units + 1 < cLine := by
  have := r.units
  omega
def Rx (H : Hp) : Nat → V → Prop
  | 0, x => sca x = true
  | n + 1, x => sca x = true ∨ (∃ a xs, x = .ref a ∧ (H a = some (.lst xs) ∨ H a = some (.tup xs)) ∧ xs.length ≤ 1000 ∧ ∀ y ∈ xs, Rx H n y) ∨ ∃ a k v, x = .ref a ∧ H a = some (.dK [(k, v)]) ∧ sca v = true
theorem Rx.same : ∀ {n : Nat} {H H' : Hp} {x : V}, Same H H' → Rx H n x → Rx H' n x
  | 0, _, _, _, _, h => h
  | n + 1, H, H', x, s, h => by
    rcases h with h | ⟨a, xs, e, h1, hz, h⟩ | ⟨a, k, v, e, h1, h⟩
    · exact .inl h
    · exact .inr (.inl ⟨a, xs, e, h1.imp (s _ _) (s _ _), hz, fun y hy => (h y hy).same s⟩)
    · exact .inr (.inr ⟨a, k, v, e, s _ _ h1, h⟩)
theorem Rx.up : ∀ {n : Nat} {H : Hp} {x : V}, Rx H n x → Rx H (n + 1) x
  | 0, _, _, h => .inl h
  | n + 1, H, x, h => by
    rcases h with h | ⟨a, xs, e, h1, hz, h⟩ | h
    · exact .inl h
    · exact .inr (.inl ⟨a, xs, e, h1, hz, fun y hy => (h y hy).up⟩)
    · exact .inr (.inr h)
theorem Rx.le {n m : Nat} {H : Hp} {x : V} (hm : n ≤ m) (h : Rx H n x) : Rx H m x := by
  induction hm with
  | refl => exact h
  | step _ ih => exact ih.up
theorem Rx.lst {n : Nat} {H : Hp} {a : Addr} {xs : List V} (h : H a = some (.lst xs)) (hz : xs.length ≤ 1000) (q : ∀ y ∈ xs, Rx H n y) : Rx H (n + 1) (.ref a) := .inr (.inl ⟨a, xs, rfl, .inl h, hz, q⟩)
theorem Rx.tup {n : Nat} {H : Hp} {a : Addr} {xs : List V} (h : H a = some (.tup xs)) (hz : xs.length ≤ 1000) (q : ∀ y ∈ xs, Rx H n y) : Rx H (n + 1) (.ref a) := .inr (.inl ⟨a, xs, rfl, .inr h, hz, q⟩)
section
variable {H H' : Hp} {a d D : Addr} {Q : VK} {σ : L2.St} {t : TE} {u : HO} {o : Obj} {kvs : List (Key × V)}
theorem x_lock (h : H d = some u) (mu : Mut (some u)) (q : ∀ od, t σ (upd H d (.frz od u)) fun v H' => H' d = some (.frz od u) ∧ Q v (upd H' d u)) : tLockE t σ H Q := ⟨d, u, h, mu, q⟩
theorem same_unlock {w : HO} (h : H d = some u) (s : Same (upd H d w) H') : Same H (upd H' d u) := fun b o e => by
  by_cases hb : b = d
  · subst hb
    rw [upd_same, ← h, e]
  · rw [upd_ne hb]
    exact s b o (by rw [upd_ne hb]; exact e)
theorem x_dget {td ty : TE} (h : td σ H fun x H1 => ty σ H1 fun y H2 => ∃ a v, x = .ref a ∧ DGet H2 a y (some v) ∧ Q v H2) : tDGet td ty σ H Q := h
theorem x_keysV {i : Nat} {R : It → Hp → Prop} (h : σ[i]? = some (some (.ref d))) (h1 : H d = some (.frz o (.dK kvs))) (q : R (Itk d o kvs) H) : iKeys (tVar i) σ H R :=
  ⟨.ref d, h, d, o, rfl, .inl ⟨kvs, h1, q⟩⟩
end
end Fv
namespace Fv
open PySem PySem.Spec L2
def kdl : Nat → List V → List (Key × V)
  | _, [] => []
  | k, x :: r => (Sum.inl (k : Int), x) :: kdl (k + 1) r
theorem kdl_len : ∀ (k : Nat) (xs : List V), (kdl k xs).length = xs.length
  | _, [] => rfl
  | k, _ :: r => by
    show (kdl (k + 1) r).length + 1 = r.length + 1
    rw [kdl_len]
theorem kdl_get : ∀ (k : Nat) (xs : List V) (i : Nat), (kdl k xs)[i]? = xs[i]?.map fun x => (Sum.inl ((k + i : Nat) : Int), x)
  | _, [], _ => rfl
  | k, x :: r, 0 => rfl
  | k, x :: r, i + 1 => by
    show (kdl (k + 1) r)[i]? = r[i]?.map _
    rw [kdl_get (k + 1) r i, show k + 1 + i = k + (i + 1) by omega]
theorem kdl_at {k : Nat} {xs : List V} {i : Nat} {q : Key} {v : V} (h : (kdl k xs)[i]? = some (q, v)) : q = Sum.inl ((k + i : Nat) : Int) ∧ xs[i]? = some v := by
  rw [kdl_get] at h
  cases e : xs[i]? with
  | none => rw [e] at h; cases h
  | some x => rw [e] at h; cases h; exact ⟨rfl, rfl⟩
theorem kdl_val : ∀ {k : Nat} {xs : List V} {i : Nat} {x : V}, xs[i]? = some x → valV (kdl k xs) (Sum.inl ((k + i : Nat) : Int)) = some x
  | _, [], _, _, h => by cases h
  | k, y :: r, 0, x, h => by
    cases h
    exact valV_pos rfl
  | k, y :: r, i + 1, x, h => by
    show valV ((Sum.inl (k : Int), y) :: kdl (k + 1) r) _ = _
    rw [valV_neg (by
      intro e
      have := Sum.inl.inj e
      omega), show k + (i + 1) = k + 1 + i by omega]
    exact kdl_val h
theorem kdl_no : ∀ {k : Nat} {xs : List V} {b : Int}, (b < k ∨ (k : Int) + xs.length ≤ b) → valV (kdl k xs) (Sum.inl b) = none
  | _, [], _, _ => rfl
  | k, y :: r, b, h => by
    rw [List.length_cons] at h
    show valV ((Sum.inl (k : Int), y) :: kdl (k + 1) r) _ = _
    rw [valV_neg (by
      intro e
      have := Sum.inl.inj e
      omega)]
    exact kdl_no (by omega)
theorem kdl_app : ∀ (k : Nat) (xs ys : List V), kdl k (xs ++ ys) = kdl k xs ++ kdl (k + xs.length) ys
  | _, [], _ => rfl
  | k, x :: r, ys => by
    show _ :: kdl (k + 1) (r ++ ys) = _ :: (kdl (k + 1) r ++ _)
    rw [kdl_app (k + 1) r ys, List.length_cons, show k + 1 + r.length = k + (r.length + 1) by omega]
theorem kdl_snoc {k : Nat} {xs : List V} {b : Int} {v : V} (h : b = ((k + xs.length : Nat) : Int)) : putK (kdl k xs) (Sum.inl b) v = kdl k (xs ++ [v]) := by
  subst h
  rw [putK_new v (kdl_no (.inr (by omega))), kdl_app]
  rfl
theorem kdl_set {k : Nat} {xs : List V} {i : Nat} {b : Int} {v : V} (hi : i < xs.length) (h : b = ((k + i : Nat) : Int)) : putK (kdl k xs) (Sum.inl b) v = kdl k (xs.set i v) := by
  subst h
  have hv := kdl_val (k := k) (List.getElem?_eq_getElem hi)
  unfold putK
  rw [valV_any, hv]
  simp only [Option.isSome_some, if_true]
  refine List.ext_getElem? fun j => ?_
  rw [List.getElem?_map, kdl_get, kdl_get, List.getElem?_set]
  by_cases c : i = j
  · subst c
    rw [List.getElem?_eq_getElem hi]
    simp [hi]
  · rw [if_neg c]
    cases xs[j]? with
    | none => rfl
    | some x =>
      simp only [Option.map_some]
      rw [if_neg (by
        intro e
        have := Sum.inl.inj e
        omega)]
theorem kdl_merge : ∀ (ys : List V) (k : Nat) (xs : List V), mergeK (kdl k xs) (kdl (k + xs.length) ys) = kdl k (xs ++ ys)
  | [], k, xs => by
    rw [List.append_nil]
    rfl
  | y :: r, k, xs => by
    show mergeK (putK (kdl k xs) (Sum.inl ((k + xs.length : Nat) : Int)) y) (kdl (k + xs.length + 1) r) = _
    rw [kdl_snoc rfl, show k + xs.length + 1 = k + (xs ++ [y]).length by rw [List.length_append]; show _ = k + (xs.length + 1); omega, kdl_merge r k (xs ++ [y]), List.append_assoc]
    rfl
theorem kdl_fresh (k : Nat) (ys : List V) : mergeK [] (kdl k ys) = kdl k ys := kdl_merge ys k []
theorem asc_ext : ∀ {a b : List Int}, a.Pairwise (· < ·) → b.Pairwise (· < ·) → (∀ k, k ∈ a ↔ k ∈ b) → a = b
  | [], [], _, _, _ => rfl
  | [], y :: b, _, _, h => absurd ((h y).2 List.mem_cons_self) (by simp)
  | x :: a, [], _, _, h => absurd ((h x).1 List.mem_cons_self) (by simp)
  | x :: a, y :: b, ha, hb, h => by
    obtain ⟨a1, a2⟩ := List.pairwise_cons.mp ha
    obtain ⟨b1, b2⟩ := List.pairwise_cons.mp hb
    have e : x = y := by
      rcases List.mem_cons.mp ((h x).1 List.mem_cons_self) with e | e
      · exact e
      · rcases List.mem_cons.mp ((h y).2 List.mem_cons_self) with e2 | e2
        · exact e2.symm
        · have := a1 _ e2
          have := b1 _ e
          omega
    subst e
    rw [asc_ext a2 b2 fun k => ?_]
    constructor
    · intro m
      rcases List.mem_cons.mp ((h k).1 (List.mem_cons_of_mem _ m)) with e | e
      · subst e
        exact absurd (a1 _ m) (by omega)
      · exact e
    · intro m
      rcases List.mem_cons.mp ((h k).2 (List.mem_cons_of_mem _ m)) with e | e
      · subst e
        exact absurd (b1 _ m) (by omega)
      · exact e
def intsN (l : List Nat) : List Int := l.map fun (p : Nat) => (p : Int)
def hadL (n : Nat) (l : List Nat) : List Nat := (List.range (n + 1)).filter fun p => decide (p ∈ l)
theorem hadL_mem {n : Nat} {l : List Nat} {p : Nat} : p ∈ hadL n l ↔ p ≤ n ∧ p ∈ l := by
  unfold hadL
  rw [List.mem_filter, List.mem_range, decide_eq_true_iff]
  exact ⟨fun h => ⟨by have := h.1; omega, h.2⟩, fun h => ⟨by have := h.1; omega, h.2⟩⟩
theorem hadL_asc (n : Nat) (l : List Nat) : (hadL n l).Pairwise (· < ·) := List.Pairwise.filter _ List.pairwise_lt_range
theorem hadL_only {n : Nat} {l : List Nat} {ns : List Int} (h : ∀ p ∈ l, p ≤ n) (a : ns.Pairwise (· < ·)) (m : ∀ k : Int, k ∈ ns ↔ decide (k ∈ intsN l) = true) : ns = intsN (hadL n l) := by
  refine asc_ext a ?_ fun k => ?_
  · exact List.Pairwise.map _ (fun a b (c : a < b) => Int.ofNat_lt.mpr c) (hadL_asc n l)
  · rw [m, decide_eq_true_iff]
    unfold intsN
    rw [List.mem_map, List.mem_map]
    constructor
    · rintro ⟨p, hp, rfl⟩
      exact ⟨p, hadL_mem.2 ⟨h p hp, hp⟩, rfl⟩
    · rintro ⟨p, hp, rfl⟩
      exact ⟨p, (hadL_mem.1 hp).2, rfl⟩
theorem hadL_len (n : Nat) (l : List Nat) : (hadL n l).length ≤ n + 1 := by
  have := List.length_filter_le (fun p => decide (p ∈ l)) (List.range (n + 1))
  rw [List.length_range] at this
  exact this
theorem intsN_len (l : List Nat) : (intsN l).length = l.length := List.length_map ..
def addT (ls : List (List Nat)) (m : Nat × Nat) : List (List Nat) := ls.set (m.1 - 1) (ls.getD (m.1 - 1) [] ++ [m.2])
def tiesL (hs : List Nat) (ms : List (Nat × Nat)) : List (List Nat) := ms.foldl addT (hs.map fun p => [p])
def hadLs (hs : List Nat) (ms : List (Nat × Nat)) : List (List Nat) := (tiesL hs ms).map (hadL hs.length)
theorem addT_len (ls : List (List Nat)) (m : Nat × Nat) : (addT ls m).length = ls.length := List.length_set ..
theorem foldT_len : ∀ (ms : List (Nat × Nat)) (ls : List (List Nat)), (ms.foldl addT ls).length = ls.length
  | [], _ => rfl
  | m :: r, ls => by
    show (r.foldl addT (addT ls m)).length = _
    rw [foldT_len r, addT_len]
theorem tiesL_len (hs : List Nat) (ms : List (Nat × Nat)) : (tiesL hs ms).length = hs.length := by
  unfold tiesL
  rw [foldT_len, List.length_map]
theorem tiesL_snoc (hs : List Nat) (ms : List (Nat × Nat)) (m : Nat × Nat) : tiesL hs (ms ++ [m]) = addT (tiesL hs ms) m := by
  unfold tiesL
  rw [List.foldl_append]
  rfl
theorem tiesL_take {hs : List Nat} {ms : List (Nat × Nat)} {i : Nat} {m : Nat × Nat} (h : ms[i]? = some m) : tiesL hs (ms.take (i + 1)) = addT (tiesL hs (ms.take i)) m := by
  rw [List.take_add_one, h]
  exact tiesL_snoc ..
def TieOk (n k : Nat) (ls : List (List Nat)) : Prop := ∀ i l, ls[i]? = some l → 1 ≤ l.length ∧ l.length ≤ k + 1 ∧ ∀ p ∈ l, p ≤ n ∧ p ≠ i + 1
theorem TieOk.add {n k : Nat} {ls : List (List Nat)} {m : Nat × Nat} (h : TieOk n k ls) (b1 : 1 ≤ m.1) (hp : m.2 ≤ n) (hb : m.2 ≠ m.1) : TieOk n (k + 1) (addT ls m) := by
  intro i l e
  unfold addT at e
  rw [List.getElem?_set] at e
  split at e
  · rename_i c
    subst c
    split at e
    · rename_i lt
      have g := List.getElem?_eq_getElem lt
      rw [List.getD_eq_getElem?_getD, g] at e
      cases e
      obtain ⟨q1, q2, q3⟩ := h _ _ g
      rw [Option.getD_some, List.length_append]
      refine ⟨by omega, by show _ + 1 ≤ _; omega, fun p hm => ?_⟩
      rcases List.mem_append.mp hm with hm | hm
      · exact q3 p hm
      · rw [List.mem_singleton.mp hm]
        exact ⟨hp, by omega⟩
    · cases e
  · obtain ⟨q1, q2, q3⟩ := h _ _ e
    exact ⟨q1, by omega, q3⟩
theorem tieOk_base {hs : List Nat} (h1 : ∀ i p, hs[i]? = some p → p ≤ hs.length ∧ p ≠ i + 1) : TieOk hs.length 0 (hs.map fun p => [p]) := by
  intro i l e
  rw [List.getElem?_map] at e
  cases g : hs[i]? with
  | none => rw [g] at e; cases e
  | some p =>
    rw [g] at e
    cases e
    refine ⟨Nat.le_refl _, Nat.le_refl _, fun q hq => ?_⟩
    rw [List.mem_singleton.mp hq]
    exact h1 i p g
theorem tieOk_all {hs : List Nat} {ms : List (Nat × Nat)} (h1 : ∀ i p, hs[i]? = some p → p ≤ hs.length ∧ p ≠ i + 1) (h2 : ∀ m ∈ ms, 1 ≤ m.1 ∧ m.2 ≤ hs.length ∧ m.2 ≠ m.1) : ∀ i, i ≤ ms.length → TieOk hs.length i (tiesL hs (ms.take i))
  | 0, _ => tieOk_base h1
  | i + 1, hi => by
    have e := List.getElem?_eq_getElem (show i < ms.length by omega)
    rw [tiesL_take e]
    obtain ⟨a, b, c⟩ := h2 _ (List.getElem_mem (show i < ms.length by omega))
    exact (tieOk_all h1 h2 i (by omega)).add a b c
structure KnownOk (n : Nat) (ks : List (List Nat)) : Prop where
  len : ks.length = n
  at_ : ∀ i k, ks[i]? = some k → 1 ≤ k.length ∧ k.Pairwise (· < ·) ∧ ∀ p ∈ k, p ≤ n ∧ p ≠ i + 1
theorem hadLs_len (hs : List Nat) (ms : List (Nat × Nat)) : (hadLs hs ms).length = hs.length := by
  unfold hadLs
  rw [List.length_map, tiesL_len]
theorem hadLs_ok {hs : List Nat} {ms : List (Nat × Nat)} (h1 : ∀ i p, hs[i]? = some p → p ≤ hs.length ∧ p ≠ i + 1) (h2 : ∀ m ∈ ms, 1 ≤ m.1 ∧ m.2 ≤ hs.length ∧ m.2 ≠ m.1) : KnownOk hs.length (hadLs hs ms) := by
  refine ⟨hadLs_len hs ms, fun i k e => ?_⟩
  unfold hadLs at e
  rw [List.getElem?_map] at e
  cases g : (tiesL hs ms)[i]? with
  | none => rw [g] at e; cases e
  | some l =>
    rw [g] at e
    cases e
    have t := tieOk_all h1 h2 ms.length (Nat.le_refl _)
    rw [List.take_length] at t
    obtain ⟨q1, q2, q3⟩ := t i l g
    refine ⟨?_, hadL_asc _ _, fun p hp => ?_⟩
    · match l, q1, q3 with
      | p :: r, _, q3 =>
        have m : p ∈ hadL hs.length (p :: r) := hadL_mem.2 ⟨(q3 p List.mem_cons_self).1, List.mem_cons_self⟩
        exact List.length_pos_of_mem m
    · exact q3 p (hadL_mem.1 hp).2
end Fv
set_option maxRecDepth 100000
set_option maxHeartbeats 2000000
namespace Fv
open PySem PySem.Spec PyProof.Rows L2
section
variable {X : Cx} {K : PySem.W.Frag}
theorem cr_setLiK {w : World} (e : X.K = K) (e2 : X.w = w) (hc : X.calm = true) : CallR X (.type "set") (rSetLi K w) := by
  subst e e2
  exact cr_setLi hc
theorem cr_sortedSetW {w : World} (e2 : X.w = w) (hc : X.calm = true) : CallR X (.builtin "sorted") (rSortedSet w) := by
  subst e2
  exact cr_sortedSet hc
theorem call_dictPK (e : X.K = K) (hc : X.calm = true) : CallR X (.type "dict") (fun xs H Q => ∃ (a : Addr) (ps : List Addr) (kvs : List (Key × V)), xs = [.ref a] ∧ SqL K H a (ps.map V.ref) ∧ Paired (fun p kv => SqT K H p [kV kv.1, kv.2]) ps kvs ∧
    ∀ p, H p = none → Q (.ref p) (upd H p (.dK (mergeK [] kvs)))) := by
  subst e
  exact call_dictP hc
theorem dc_it {J : It} {n : Nat} {G : Hp → Prop} {Y : Nat → Hp → V → Hp → Prop} (w : Walk J n G Y) {g : TG} {tt : TT} {tk tv : TE} {vs : List Nat} {σ : L2.St} {H1 : Hp} {D : Addr} {Qd : Hp → Prop} (Pv : Nat → Hp → Prop) (h0 : Pv 0 (upd H1 D (.dK []))) (hG : ∀ i H, i ≤ n → Pv i H → G H)
    (hs : ∀ i x H H', i < n → Pv i H → Y i H x H' → g x (wipe σ vs) H' fun σ2 H2 => wipe σ2 vs = wipe σ vs ∧ tt σ2 H2 fun b H3 =>
      if b = true then tk σ2 H3 fun y H4 => tv σ2 H4 fun z H5 => ∃ kvs k, y = kV k ∧ H5 D = some (.dK kvs) ∧ kvs.length < sizeLine ∧ Pv (i + 1) (upd H5 D (.dK (putK kvs k z))) else Pv (i + 1) H3) (hd : ∀ H, Pv n H → Qd H) :
    ∃ W : Nat → Nat → Hp → Prop, (∃ m, W 0 m (upd H1 D (.dK []))) ∧ ∀ i m H, W i m H →
      (J.stop i H ∧ Qd H) ∨ (J.go i H ∧ ∃ Nx : Hp → Prop, (∀ H', Nx H' → ∃ m', m' < m ∧ W (i + 1) m' H') ∧ ∀ x H', J.yld i H x H' → g x (wipe σ vs) H' fun σ2 H2 => wipe σ2 vs = wipe σ vs ∧ tt σ2 H2 fun b H3 =>
        if b = true then tk σ2 H3 fun y H4 => tv σ2 H4 fun z H5 => ∃ kvs k, y = kV k ∧ H5 D = some (.dK kvs) ∧ kvs.length < sizeLine ∧ Nx (upd H5 D (.dK (putK kvs k z))) else Nx H3) := by
  refine ⟨fun i m H => m = n - i ∧ i ≤ n ∧ Pv i H, ⟨n, by simp, Nat.zero_le _, h0⟩, ?_⟩
  rintro i m H ⟨rfl, hi, p⟩
  have q := hG i H hi p
  by_cases hlt : i < n
  · refine .inr ⟨w.goes i H hlt q, Pv (i + 1), fun H' p' => ⟨n - (i + 1), by omega, rfl, hlt, p'⟩, fun x H' y => hs i x H H' hlt p (w.yields i H x H' hlt q y)⟩
  · have e : i = n := by omega
    subst e
    exact .inl ⟨w.stops H q, hd H p⟩
theorem lp_it {J : It} {n : Nat} {G : Hp → Prop} {Y : Nat → Hp → V → Hp → Prop} (w : Walk J n G Y) {g : TG} {tb : TS} {nx : L2.St → Hp → Prop} {rt : VK} {σ : L2.St} {H : Hp} (Pv : Nat → L2.St → Hp → Prop) (h0 : Pv 0 σ H) (hG : ∀ i σ H, i ≤ n → Pv i σ H → G H)
    (hs : ∀ i x σ H H', i < n → Pv i σ H → Y i H x H' → g x σ H' fun σ2 H2 => tb { nx := Pv (i + 1), rt := rt, bk := nx, ct := Pv (i + 1) } σ2 H2) (hd : ∀ σ H, Pv n σ H → nx σ H) :
    ∃ W : Nat → Nat → L2.St → Hp → Prop, (∃ m, W 0 m σ H) ∧ ∀ i m σ H, W i m σ H → (J.stop i H ∧ nx σ H) ∨ (J.go i H ∧ ∃ N : L2.St → Hp → Prop, (∀ σ' H', N σ' H' → ∃ m', m' < m ∧ W (i + 1) m' σ' H') ∧ ∀ x H', J.yld i H x H' → g x σ H' fun σ2 H2 => tb { nx := N, rt := rt, bk := nx, ct := N } σ2 H2) := by
  refine ⟨fun i m σ H => m = n - i ∧ i ≤ n ∧ Pv i σ H, ⟨_, rfl, Nat.zero_le _, h0⟩, ?_⟩
  rintro i m σ H ⟨rfl, hi, p⟩
  have q := hG i σ H hi p
  by_cases hlt : i < n
  · exact .inr ⟨w.goes i H hlt q, Pv (i + 1), fun σ' H' p' => ⟨_, by omega, rfl, hlt, p'⟩, fun x H' y => hs i x σ H H' hlt p (w.yields i H x H' hlt q y)⟩
  · have e : i = n := by omega
    subst e
    exact .inl ⟨w.stops H q, hd σ H p⟩
theorem x_dc {wi : TI} {g : TG} {tt : TT} {tk tv : TE} {vs : List Nat} {σ : L2.St} {H : Hp} {Q : VK} (h : wi σ H fun J H1 => ∀ D, H1 D = none → ∃ W : Nat → Nat → Hp → Prop, (∃ m, W 0 m (upd H1 D (.dK []))) ∧ ∀ i m H, W i m H →
    (J.stop i H ∧ Q (.ref D) H) ∨ (J.go i H ∧ ∃ Nx : Hp → Prop, (∀ H', Nx H' → ∃ m', m' < m ∧ W (i + 1) m' H') ∧ ∀ x H', J.yld i H x H' → g x (wipe σ vs) H' fun σ2 H2 => wipe σ2 vs = wipe σ vs ∧ tt σ2 H2 fun b H3 =>
      if b = true then tk σ2 H3 fun y H4 => tv σ2 H4 fun z H5 => ∃ kvs k, y = kV k ∧ H5 D = some (.dK kvs) ∧ kvs.length < sizeLine ∧ Nx (upd H5 D (.dK (putK kvs k z))) else Nx H3)) : tDc wi g tt tk tv vs σ H Q := h
theorem walk_enumT {t : Addr} {k : Int} {xs : List V} : Walk (Itn K t k) xs.length (fun H => SqT K H t xs) (YPair (fun i => some (.int (k + (i : Nat)))) (fun i => xs[i]?)) := by
  refine ⟨fun i _ hi q => ⟨xs, xs[i], q, by simp [hi]⟩, fun _ q => ⟨xs, q, rfl⟩, fun i H v H' _ q y => ?_⟩
  obtain ⟨T, z, h1, h2, h3, h4⟩ := y
  exact ⟨T, .int (k + (i : Nat)), z, h1, h2, h3, rfl, h4 xs q⟩
def iKeysF (td : TE) : TI := fun σ H R => td σ H fun x H1 => ∃ d kvs, x = .ref d ∧ H1 d = some (.dK kvs) ∧ ∀ o, R (Itk d o kvs) (upd H1 d (.frz o (.dK kvs)))
theorem x_keysF {td : TE} {σ : L2.St} {H : Hp} {R : It → Hp → Prop} (h : td σ H fun x H1 => ∃ d kvs, x = .ref d ∧ H1 d = some (.dK kvs) ∧ ∀ o, R (Itk d o kvs) (upd H1 d (.frz o (.dK kvs)))) : iKeysF td σ H R := h
theorem pi_keysF {tg e : Expr} {td : TE} (he : PE X e td) : PI X tg e (iKeysF td) := by
  refine ⟨fun pins s σ H R I h => ?_⟩
  refine thn (he.run pins s σ H _ I h) fun u s1 ⟨x, H1, I1, rx, d, kvs, ex, hd, q⟩ => ?_
  subst ex
  obtain rfl : u = Value.ref d := rx
  obtain ⟨o, I2⟩ := I1.lock hd True.intro
  obtain ⟨hs, hgd, hx, es, ep, vs, hdt, hsz, kv, hm⟩ := I2.frzK upd_same
  refine iter_keys hs hgd hx hdt (pi_one (tk := s1.toks) I2 _ (turn_keys _ hdt) ⟨_, Heap.get?_push_size _ rfl, rfl, ?_⟩ (q o))
  rw [hsz] <;> rfl
def iKeysFT (td : TE) : TI := fun σ H R => td σ H fun x H1 => ∃ d kvs, x = .ref d ∧ H1 d = some (.dT kvs) ∧ ∀ o, R (Itkt d o kvs) (upd H1 d (.frz o (.dT kvs)))
theorem x_keysFT {td : TE} {σ : L2.St} {H : Hp} {R : It → Hp → Prop} (h : td σ H fun x H1 => ∃ d kvs, x = .ref d ∧ H1 d = some (.dT kvs) ∧ ∀ o, R (Itkt d o kvs) (upd H1 d (.frz o (.dT kvs)))) : iKeysFT td σ H R := h
theorem pi_keysFT {tg e : Expr} {td : TE} (he : PE X e td) : PI X tg e (iKeysFT td) := by
  refine ⟨fun pins s σ H R I h => ?_⟩
  refine thn (he.run pins s σ H _ I h) fun u s1 ⟨x, H1, I1, rx, d, kvs, ex, hd, q⟩ => ?_
  subst ex
  obtain rfl : u = Value.ref d := rx
  obtain ⟨o, I2⟩ := I1.lock hd True.intro
  obtain ⟨hs, hgd, hx, es, ep, hdt, hsz, ent⟩ := I2.frzT upd_same
  refine iter_keys hs hgd hx hdt (pi_one (tk := s1.toks) I2 _ (turn_keysT _ hdt) ⟨_, Heap.get?_push_size _ rfl, rfl, ?_⟩ (q o))
  rw [hsz] <;> rfl
theorem units66 {k : Nat} {A : Around} (r : Room k A) : A.units + 66 < cLine := by
  have := r.un
  omega
def PdEq (K : PySem.W.Frag) (H : Hp) (x y : V) : Prop := ∃ d e, Dp K H x d ∧ Dp K H y e ∧ SeqAt.shaped d = true ∧ SeqAt.shaped e = true ∧ PyData.eqv d e = true
theorem hits_pd {pins : List (Addr × Obj)} {σ : L2.St} {H : Hp} {s : Shared} (I : Inv X pins σ H s) {A : Around} (hu : A.in1.units + 64 < cLine) {ls : List (Key × V)} {vb : List (Key × Value)} (rb : KV ls vb) {ks : List (Key × V)} {va : List (Key × Value)} (ra : KV ks va) :
    (∀ p ∈ ks, ∃ z, valV ls p.1 = some z ∧ PdEq X.K H p.2 z) → PySem.W.KeqHits A.in1 s vb va true := by
  unfold KV at ra
  induction ra with
  | nil => intro _; exact .nil
  | @cons p q ps qs h t ih =>
    intro hp
    obtain ⟨h1, h2⟩ := h
    obtain ⟨z, e, d1, d2, g1, g2, s1, s2, ev⟩ := hp p List.mem_cons_self
    have rr : RelO (some z) (valueAt vb p.1) := by rw [← e]; exact rb.val p.1
    obtain ⟨y, hy, ry⟩ := rr.some_of
    obtain ⟨k, v⟩ := q
    have h1' : p.1 = k := h1
    rw [h1'] at hy
    obtain ⟨as, r1⟩ := Dp.reads I d1 _ _ g1 h2
    obtain ⟨bs, r2⟩ := Dp.reads I d2 _ _ g2 ry
    have eq := PySem.W.keq_at (A := A) r1 r2 s1 s2 hu
    rw [ev] at eq
    show PySem.W.KeqHits A.in1 s vb ((k, v) :: qs) (true && true)
    exact .hit hy eq (ih fun p' hm => hp p' (List.mem_cons_of_mem _ hm))
def DdEq (K : PySem.W.Frag) (H : Hp) (x y : V) : Prop := ∃ a b ks ls, x = .ref a ∧ y = .ref b ∧ H a = some (.dK ks) ∧ H b = some (.dK ls) ∧ ks.length = ls.length ∧ ∀ p ∈ ks, ∃ z, valV ls p.1 = some z ∧ PdEq K H p.2 z
def rEqDD (K : PySem.W.Frag) : R2 := fun x y H Q => DdEq K H x y ∧ Q (.bl true) H
def rNeDD (K : PySem.W.Frag) : R2 := fun x y H Q => DdEq K H x y ∧ Q (.bl false) H
theorem op_eqDD (e : X.K = K) (hu : X.A.units + 66 < cLine) : OpR X (compareOp .Eq) (rEqDD K) := by
  subst e
  intro pins s σ H x y v u Q I rx ry h
  obtain ⟨⟨a, b, ks, ls, rfl, rfl, ea, eb, hlen, hp⟩, q⟩ := h
  obtain rfl : v = Value.ref a := rx
  obtain rfl : u = Value.ref b := ry
  obtain ⟨_, ya, va, ra, da⟩ := (show ObjOk X.prog X.w H s.heap a (.dK ks) from I.hok a _ ea)
  obtain ⟨_, yb, vb, rb, db⟩ := (show ObjOk X.prog X.w H s.heap b (.dK ls) from I.hok b _ eb)
  have hl : va.length = vb.length := by rw [← ra.length, ← rb.length]; exact hlen
  exact PySem.W.keq_eq (knd := mixKind X.prog X.w) (r := true) ya yb da db (by omega) (fun _ => hits_pd I (by show X.A.units + 1 + 64 < cLine; omega) rb ra hp) (fin_bl I q (by simp [hl]))
theorem op_neDD (e : X.K = K) (hu : X.A.units + 66 < cLine) : OpR X (compareOp .NotEq) (rNeDD K) := by
  subst e
  intro pins s σ H x y v u Q I rx ry h
  obtain ⟨⟨a, b, ks, ls, rfl, rfl, ea, eb, hlen, hp⟩, q⟩ := h
  obtain rfl : v = Value.ref a := rx
  obtain rfl : u = Value.ref b := ry
  obtain ⟨_, ya, va, ra, da⟩ := (show ObjOk X.prog X.w H s.heap a (.dK ks) from I.hok a _ ea)
  obtain ⟨_, yb, vb, rb, db⟩ := (show ObjOk X.prog X.w H s.heap b (.dK ls) from I.hok b _ eb)
  have hl : va.length = vb.length := by rw [← ra.length, ← rb.length]; exact hlen
  exact PySem.W.keq_ne (knd := mixKind X.prog X.w) (r := true) ya yb da db (by omega) (fun _ => hits_pd I (by show X.A.units + 1 + 64 < cLine; omega) rb ra hp) (fin_bl I q (by simp [hl]))
theorem pd_tup {H : Hp} {a b : Addr} {l : List Nat} (h1 : SqT K H a (nats l)) (h2 : SqT K H b (nats l)) : PdEq K H (.ref a) (.ref b) :=
  ⟨.tuple (dn l), .tuple (dn l), .tup h1 (dpAll_nats l), .tup h2 (dpAll_nats l), dn_shaped l, dn_shaped l, by rw [PyData.eqv, dn_eqv, decide_eq_true rfl]⟩
theorem but_frz {H : Hp} {d : Addr} {o : HO} : But d H (upd H d o) := fun b u hb e => by
  rw [upd_ne hb]
  exact e
theorem dgetN {H : Hp} {d : Addr} {k : Nat} {xs : List V} {i : Nat} {x : V} {b : Int} (h : Rd H d (.dK (kdl k xs))) (hx : xs[i]? = some x) (hb : b = ((k + i : Nat) : Int)) : DGet H d (.int b) (some x) := by
  subst hb
  exact .inl ⟨_, Sum.inl _, h, rfl, (kdl_val hx).symm⟩
theorem dputN {H : Hp} {d : Addr} {k : Nat} {xs : List V} {i : Nat} {b : Int} {v : V} (h : H d = some (.dK (kdl k xs))) (hi : i < xs.length) (hz : xs.length ≤ 1000) (hb : b = ((k + i : Nat) : Int)) : DPut H d (.int b) v (upd H d (.dK (kdl k (xs.set i v)))) := by
  refine .inl ⟨_, Sum.inl b, h, rfl, ?_, by rw [kdl_set hi hb]⟩
  rw [kdl_len]
  rw [sizeLine_eq]
  omega
end
end Fv
namespace Fv
open PySem PySem.Spec L2
def upOk (us : List (Option Nat)) (b : Nat) (k : List Nat) : Bool := match us[b - 1]? with
  | some (some q) => decide (q ∈ k)
  | _ => true
def colOk (k : List Nat) (p : Nat) : Option Bool → Bool
  | none => true
  | some true => decide (p ∈ k)
  | some false => !decide (k = [p])
def canCols (k : List Nat) : Nat → List (Option Bool) → Bool
  | _, [] => true
  | p, o :: r => colOk k p o && canCols k (p + 1) r
theorem canCols_snoc (k : List Nat) : ∀ (p : Nat) (c : List (Option Bool)) (o : Option Bool), canCols k p (c ++ [o]) = (canCols k p c && colOk k (p + c.length) o)
  | p, [], o => by
    show (colOk k p o && true) = (true && colOk k (p + 0) o)
    simp
  | p, x :: r, o => by
    show (colOk k p x && canCols k (p + 1) (r ++ [o])) = (colOk k p x && canCols k (p + 1) r && colOk k (p + (r.length + 1)) o)
    rw [canCols_snoc, Bool.and_assoc, show p + 1 + r.length = p + (r.length + 1) by omega]
theorem canCols_take {k : List Nat} {c : List (Option Bool)} {i : Nat} {o : Option Bool} (h : c[i]? = some o) : canCols k 0 (c.take (i + 1)) = (canCols k 0 (c.take i) && colOk k i o) := by
  rw [List.take_add_one, h]
  show canCols k 0 (c.take i ++ [o]) = _
  have l : i < c.length := (List.getElem?_eq_some_iff.mp h).1
  rw [canCols_snoc, List.length_take, Nat.zero_add, Nat.min_eq_left (by omega)]
theorem canCols_no {k : List Nat} : ∀ {p : Nat} {c : List (Option Bool)} {i : Nat} {o : Option Bool}, c[i]? = some o → colOk k (p + i) o = false → canCols k p c = false
  | _, [], _, _, h, _ => by cases h
  | p, x :: r, 0, o, h, q => by
    cases h
    show (colOk k p x && _) = false
    rw [show colOk k p x = false from q]
    rfl
  | p, x :: r, i + 1, o, h, q => by
    show (colOk k p x && canCols k (p + 1) r) = false
    rw [canCols_no (p := p + 1) (i := i) h (by rw [show p + 1 + i = p + (i + 1) by omega]; exact q), Bool.and_false]
def canB (us : List (Option Nat)) (ls : List (List (Option Bool))) (b : Nat) (k : List Nat) : Bool := upOk us b k && canCols k 0 (col ls b)
def standsN (us : List (Option Nat)) (ls : List (List (Option Bool))) (ks : List (List Nat)) : List Bool := (List.range ks.length).map fun i => canB us ls (i + 1) (ks.getD i [])
def worthL (k : List Nat) (p : Nat) : List Bool := (if p ∈ k then [true] else []) ++ (if ¬ p ∈ k ∨ 1 < k.length then [false] else [])
theorem one_is {k : List Nat} {p : Nat} (h : p ∈ k) (l : ¬ 1 < k.length) : k = [p] := by
  match k, h, l with
  | [x], h, _ => rw [List.mem_singleton.mp h]
  | x :: y :: r, _, l => exact absurd (show 1 < r.length + 1 + 1 by omega) l
theorem colOk_worth {k : List Nat} {p : Nat} (f : Bool) : colOk k p (some f) = decide (f ∈ worthL k p) := by
  unfold worthL
  cases f with
  | true =>
    show decide (p ∈ k) = _
    rw [decide_eq_decide]
    by_cases h : p ∈ k
    · simp [h]
    · simp [h]
  | false =>
    show (!decide (k = [p])) = _
    by_cases h : k = [p]
    · subst h
      simp
    · rw [decide_eq_false h]
      refine (decide_eq_true ?_).symm
      rw [List.mem_append]
      refine .inr ?_
      by_cases c : ¬ p ∈ k ∨ 1 < k.length
      · rw [if_pos c]
        exact List.mem_singleton.mpr rfl
      · have c1 : p ∈ k := Classical.not_not.mp fun z => c (.inl z)
        exact absurd (one_is c1 fun z => c (.inr z)) h
theorem worthL_pos {k : List Nat} {p : Nat} : 1 ≤ (worthL k p).length := by
  unfold worthL
  by_cases h : p ∈ k
  · rw [if_pos h]
    simp
  · simp [h]
def manyN : List (List Nat) → Nat
  | [] => 1
  | k :: r => (if 1 < k.length then k.length * 2 ^ k.length else 1) * manyN r
def manyF (k : List Nat) : Nat := if 1 < k.length then k.length * 2 ^ k.length else 1
theorem manyN_snoc : ∀ (l : List (List Nat)) (k : List Nat), manyN (l ++ [k]) = manyN l * manyF k
  | [], k => by
    show manyF k * 1 = 1 * manyF k
    omega
  | x :: r, k => by
    show manyF x * manyN (r ++ [k]) = manyF x * manyN r * manyF k
    rw [manyN_snoc r k, Nat.mul_assoc]
theorem manyN_take {l : List (List Nat)} {i : Nat} {k : List Nat} (h : l[i]? = some k) : manyN (l.take (i + 1)) = manyN (l.take i) * manyF k := by
  rw [List.take_add_one, h]
  exact manyN_snoc _ _
theorem shl_small {k : Nat} (h : k ≤ 41) : k * 2 ^ k < 2 ^ 64 := by
  have h1 : 2 ^ k ≤ 2 ^ 41 := Nat.pow_le_pow_right (by decide) h
  have h2 : k * 2 ^ k ≤ 41 * 2 ^ 41 := Nat.mul_le_mul h h1
  exact Nat.lt_of_le_of_lt h2 (by decide)
def prodR (f : Nat → Nat) : Nat → Nat
  | 0 => 1
  | n + 1 => prodR f n * f n
theorem prodR_mul (f g : Nat → Nat) : ∀ n, prodR (fun i => f i * g i) n = prodR f n * prodR g n
  | 0 => rfl
  | n + 1 => by
    show prodR (fun i => f i * g i) n * (f n * g n) = prodR f n * f n * (prodR g n * g n)
    rw [prodR_mul f g n, Nat.mul_assoc, Nat.mul_assoc, Nat.mul_left_comm (prodR g n)]
theorem prodR_one : ∀ n, prodR (fun _ => 1) n = 1
  | 0 => rfl
  | n + 1 => by
    show prodR (fun _ => 1) n * 1 = 1
    rw [prodR_one n]
theorem prodR_congr {f g : Nat → Nat} : ∀ {n : Nat}, (∀ i, i < n → f i = g i) → prodR f n = prodR g n
  | 0, _ => rfl
  | n + 1, h => by
    show prodR f n * f n = prodR g n * g n
    rw [prodR_congr fun i hi => h i (by omega), h n (by omega)]
theorem prodR_swap (f : Nat → Nat → Nat) (m : Nat) : ∀ n, prodR (fun i => prodR (fun j => f i j) m) n = prodR (fun j => prodR (fun i => f i j) n) m
  | 0 => (prodR_one m).symm
  | n + 1 => by
    show prodR (fun i => prodR (fun j => f i j) m) n * prodR (fun j => f n j) m = prodR (fun j => prodR (fun i => f i j) n * f n j) m
    rw [prodR_swap f m n, prodR_mul]
theorem prodR_two (q : Nat → Bool) : ∀ n, prodR (fun p => if q p = true then 2 else 1) n = 2 ^ ((List.range n).filter q).length
  | 0 => rfl
  | n + 1 => by
    show prodR (fun p => if q p = true then 2 else 1) n * (if q n = true then 2 else 1) = _
    rw [prodR_two q n, List.range_succ, List.filter_append, List.length_append]
    by_cases h : q n = true
    · rw [if_pos h, List.filter_cons_of_pos h]
      show _ = 2 ^ (_ + 1)
      rw [Nat.pow_succ]
    · rw [if_neg h, List.filter_cons_of_neg h]
      show _ * 1 = 2 ^ (_ + 0)
      rw [Nat.mul_one, Nat.add_zero]
theorem worth_prod {n : Nat} {k : List Nat} (h1 : 1 ≤ k.length) (a : k.Pairwise (· < ·)) (h : ∀ p ∈ k, p ≤ n) : k.length * prodR (fun p => (worthL k p).length) (n + 1) = if 1 < k.length then k.length * 2 ^ k.length else 1 := by
  by_cases c : 1 < k.length
  · rw [if_pos c, prodR_congr (g := fun p => if decide (p ∈ k) = true then 2 else 1) fun p _ => ?_, prodR_two]
    · have e : (List.range (n + 1)).filter (fun p => decide (p ∈ k)) = hadL n k := rfl
      have l : (hadL n k).length = k.length := by
        have e2 : intsN k = intsN (hadL n k) := hadL_only h (List.Pairwise.map _ (fun a b (c : a < b) => Int.ofNat_lt.mpr c) a) fun z => by rw [decide_eq_true_iff]
        have e3 := congrArg List.length e2
        rw [intsN_len, intsN_len] at e3
        exact e3.symm
      rw [e, l]
    · unfold worthL
      by_cases m : p ∈ k
      · simp [m, c]
      · simp [m]
  · rw [if_neg c, prodR_congr (g := fun _ => 1) fun p _ => ?_, prodR_one]
    · omega
    · unfold worthL
      by_cases m : p ∈ k
      · simp [m, c]
      · simp [m]
theorem manyN_prod : ∀ (ks : List (List Nat)), manyN ks = prodR (fun i => if 1 < (ks.getD i []).length then (ks.getD i []).length * 2 ^ (ks.getD i []).length else 1) ks.length
  | [] => rfl
  | k :: r => by
    have go : ∀ (f : Nat → Nat) (n : Nat), prodR f (n + 1) = f 0 * prodR (fun i => f (i + 1)) n := fun f n => by
      induction n with
      | zero => show 1 * f 0 = f 0 * 1; omega
      | succ n ih =>
        show prodR f (n + 1) * f (n + 1) = f 0 * (prodR (fun i => f (i + 1)) n * f (n + 1))
        rw [ih, Nat.mul_assoc]
    show _ * manyN r = prodR _ (r.length + 1)
    rw [go, manyN_prod r]
    rfl
def allN (n : Nat) (ks : List (List Nat)) : Nat := prodR (fun i => (ks.getD i []).length) ks.length * prodR (fun p => prodR (fun i => (worthL (ks.getD i []) p).length) ks.length) (n + 1)
theorem allN_many {n : Nat} {ks : List (List Nat)} (h : KnownOk n ks) : allN n ks = manyN ks := by
  unfold allN
  rw [← prodR_swap (fun i p => (worthL (ks.getD i []) p).length) (n + 1), ← prodR_mul, manyN_prod]
  refine prodR_congr fun i hi => ?_
  have g := List.getElem?_eq_getElem hi
  obtain ⟨q1, q2, q3⟩ := h.at_ i _ g
  have e : ks.getD i [] = ks[i] := by rw [List.getD_eq_getElem?_getD, g]; rfl
  rw [e]
  exact worth_prod q1 q2 fun p hp => (q3 p hp).1
end Fv
set_option maxRecDepth 100000
set_option maxHeartbeats 1000000
namespace Fv
open PySem PySem.Spec L2
def top (i : Nat) : Stmt := PySem.Challenge.pw_foldervotes_k35_whole_places_had_and_pic.main.body.getD i (.Pass ⟨0, 0, 0, 0⟩)
abbrev s_BadTree___init__ : Stmt := inClass (top 2) 0
abbrev s_BadHistory___init__ : Stmt := inClass (top 8) 0
abbrev s_is_within : Stmt := top 10
abbrev s_is_pair : Stmt := top 11
abbrev s_Tree___init__ : Stmt := inClass (top 14) 0
abbrev s__comes_to_head : Stmt := top 15
abbrev s_is_block : Stmt := top 16
abbrev s_is_place : Stmt := top 17
abbrev s_place_of : Stmt := top 18
abbrev s_parents : Stmt := top 19
abbrev s_beneath : Stmt := top 20
abbrev s_moved : Stmt := top 21
abbrev s_Words___init__ : Stmt := inClass (top 23) 0
abbrev s__is_tuple_of : Stmt := top 24
abbrev s__is_up : Stmt := top 25
abbrev s__is_listing : Stmt := top 26
abbrev s_History___init__ : Stmt := inClass (top 29) 0
abbrev s_had : Stmt := top 30
abbrev s__ties_of : Stmt := top 31
abbrev s_can_stand : Stmt := top 32
abbrev s__can_be : Stmt := top 33
abbrev s_many_pictures : Stmt := top 34
abbrev s__law_hand : Stmt := top 36
abbrev s__law_draw : Stmt := top 37
abbrev s__law_tree : Stmt := top 38
abbrev s__law_row : Stmt := top 39
abbrev s__law_beneath : Stmt := top 42
abbrev s__law_put : Stmt := top 43
abbrev s__law_moves : Stmt := top 44
abbrev s__law_had : Stmt := top 45
abbrev s__law_worths : Stmt := top 47
abbrev s__law_words : Stmt := top 48
abbrev s__law_stands : Stmt := top 51
abbrev s__law_turned : Stmt := top 52
abbrev s__law_all : Stmt := top 53
abbrev s_law : Stmt := top 54
structure Ad where
  a_VoteError : Addr
  a_BadTree : Addr
  a_NoBlock : Addr
  a_NoPlace : Addr
  a_Beneath : Addr
  a_OtherBlocks : Addr
  a_BadWords : Addr
  a_BadHistory : Addr
  a_Tree : Addr
  a_Words : Addr
  a_History : Addr
  t_MOST_BLOCKS : PySem.Tok
  t_MOST_MOVES : PySem.Tok
structure Bl (Z : Ad) (mg : Str → Option Value) : Prop where
  b_ValueError : mg "ValueError" = none
  b_abs : mg "abs" = none
  b_all : mg "all" = none
  b_bool : mg "bool" = none
  b_dict : mg "dict" = none
  b_enumerate : mg "enumerate" = none
  b_int : mg "int" = none
  b_isinstance : mg "isinstance" = none
  b_len : mg "len" = none
  b_list : mg "list" = none
  b_min : mg "min" = none
  b_range : mg "range" = none
  b_set : mg "set" = none
  b_sorted : mg "sorted" = none
  b_str : mg "str" = none
  b_super : mg "super" = none
  b_tuple : mg "tuple" = none
  k_VoteError : mg "VoteError" = some (.ref Z.a_VoteError)
  k_BadTree : mg "BadTree" = some (.ref Z.a_BadTree)
  k_NoBlock : mg "NoBlock" = some (.ref Z.a_NoBlock)
  k_NoPlace : mg "NoPlace" = some (.ref Z.a_NoPlace)
  k_Beneath : mg "Beneath" = some (.ref Z.a_Beneath)
  k_OtherBlocks : mg "OtherBlocks" = some (.ref Z.a_OtherBlocks)
  k_BadWords : mg "BadWords" = some (.ref Z.a_BadWords)
  k_BadHistory : mg "BadHistory" = some (.ref Z.a_BadHistory)
  k_Tree : mg "Tree" = some (.ref Z.a_Tree)
  k_Words : mg "Words" = some (.ref Z.a_Words)
  k_History : mg "History" = some (.ref Z.a_History)
  c_MOST_BLOCKS : mg "MOST_BLOCKS" = some (.int 40 Z.t_MOST_BLOCKS)
  c_MOST_MOVES : mg "MOST_MOVES" = some (.int 100 Z.t_MOST_MOVES)
end Fv
set_option maxRecDepth 100000
set_option maxHeartbeats 1000000
namespace Fv
open PySem PySem.Spec L2
local macro_rules | `(tactic| walk_at "ne") => `(tactic| first
  | assumption
  | (apply Ne.symm; assumption)
  | exact ne_of_none (by assumption) (by assumption)
  | (apply Ne.symm; exact ne_of_none (by assumption) (by assumption))
  | exact ne_none' (by assumption) (by walk_at "hu")
  | (apply Ne.symm; exact ne_none' (by assumption) (by walk_at "hu")))
local macro_rules | `(tactic| walk_at "hu") => `(tactic| first
  | with_reducible assumption
  | with_reducible exact upd_same
  | ((with_reducible show upd _ _ _ _ = some _); first | with_reducible exact upd_same | (with_reducible exact keepN (by walk_at "hu") (by assumption)) | (with_reducible exact keepM (by walk_at "ne") (by walk_at "hu"))))
local macro_rules | `(tactic| walk_at "hl") => `(tactic| first
  | with_reducible assumption
  | with_reducible exact SqL.of (by assumption)
  | ((with_reducible show SqL _ (upd _ _ _) _ _); first
    | with_reducible exact SqL.of upd_same
    | with_reducible exact keepLN (by walk_at "hl") (by assumption)
    | with_reducible exact keepLM (by walk_at "ne") (by walk_at "hl"))
  | with_reducible exact Same.seq (by assumption) (by walk_at "hl")
  | with_reducible exact But.seq (by assumption) (by walk_at "ne") (by walk_at "hl"))
local macro_rules | `(tactic| walk_at "ht") => `(tactic| first
  | with_reducible assumption
  | with_reducible exact SqT.of (by assumption)
  | ((with_reducible show SqT _ (upd _ _ _) _ _); first
    | with_reducible exact SqT.of upd_same
    | with_reducible exact keepTN (by walk_at "ht") (by assumption)
    | with_reducible exact keepTM (by walk_at "ne") (by walk_at "ht"))
  | with_reducible exact Same.seqT (by assumption) (by walk_at "ht")
  | with_reducible exact But.seqT (by assumption) (by walk_at "ne") (by walk_at "ht"))
local macro_rules | `(tactic| walk_at "sm") => `(tactic| first
  | with_reducible assumption
  | with_reducible exact Same.refl _
  | ((with_reducible show Same _ (upd _ _ _)); first
    | with_reducible exact same_new (by walk_at "sm") (by assumption)
    | with_reducible exact same_mut (by walk_at "sm") (by assumption))
  | ((with_reducible refine same_trans (by assumption) ?_); walk_at "sm"))
local macro_rules | `(tactic| walk_at "bt") => `(tactic| first
  | with_reducible assumption
  | with_reducible exact But.refl _ _
  | with_reducible exact But.of (by assumption)
  | ((with_reducible show But _ _ (upd _ _ _)); first
    | ((with_reducible refine But.mut ?_); walk_at "bt")
    | with_reducible exact But.new (by walk_at "bt") (by assumption)
    | with_reducible exact But.mutF (by walk_at "bt") (by assumption))
  | ((with_reducible refine but_trans (by assumption) ?_); walk_at "bt")
  | ((with_reducible refine but_trans (But.of (by assumption)) ?_); walk_at "bt"))
local macro_rules | `(tactic| walk_at "kn") => `(tactic| first
  | with_reducible assumption
  | exact True.intro
  | with_reducible exact Kn.same (by assumption) (by walk_at "kn")
  | with_reducible exact Kn.same (same_new (Same.refl _) (by assumption)) (by walk_at "kn"))
local macro_rules | `(tactic| walk_at "h1") => `(tactic| first
  | with_reducible refine x_seq ?_
  | with_reducible refine x_next ?_
  | with_reducible refine x_drop ?_
  | with_reducible refine x_ret ?_
  | with_reducible refine x_retN ?_
  | with_reducible refine x_ifs ?_
  | with_reducible refine x_asg ?_
  | with_reducible refine x_gname ?_
  | with_reducible refine x_gsub ?_
  | ((with_reducible show tVar _ _ _ _); with_reducible refine x_var (by with_unfolding_all rfl) ?_)
  | with_reducible refine x_c ?_
  | with_reducible refine x_op ?_
  | with_reducible refine x_un ?_
  | with_reducible refine x_i0 ?_
  | ((with_reducible show rI _ _ (V.int _) (V.int _) _ _); with_reducible refine x_i (by with_unfolding_all (first | assumption | decide | (show (0 : Int) < _; first | assumption | decide | omega) | exact ⟨by first | assumption | decide | omega, by first | assumption | decide | omega⟩ | exact Or.inl ⟨by first | decide | omega, by first | decide | omega⟩ | exact Or.inr ⟨by first | decide | omega, by first | decide | omega⟩)) ?_)
  | with_reducible refine x_u ?_
  | with_reducible refine x_isN0 ?_
  | with_reducible refine x_isN1 ?_
  | with_reducible refine x_isN2 ?_
  | with_reducible refine x_isN3 ?_
  | with_reducible refine x_isN4 ?_
  | with_reducible refine x_notN0 ?_
  | with_reducible refine x_notN1 ?_
  | with_reducible refine x_notN2 ?_
  | with_reducible refine x_notN3 ?_
  | with_reducible refine x_notN4 ?_
  | with_reducible refine x_eqB ?_
  | with_reducible refine x_neB ?_
  | with_reducible refine x_eqS ?_
  | with_reducible refine x_eqI ?_
  | with_reducible refine x_neI ?_
  | ((with_reducible show rEq _ _ _ _); with_reducible refine x_eq (by with_unfolding_all rfl) ?_)
  | ((with_reducible show rNe _ _ _ _); with_reducible refine x_ne (by with_unfolding_all rfl) ?_)
  | ((with_reducible show rIxL _ (V.ref _) (V.int _) _ _); with_reducible refine x_ixL (by walk_at "hl") (by first | assumption | with_unfolding_all exact atI_nat (j := 0) rfl | with_unfolding_all exact atI_nat (j := 1) rfl | with_unfolding_all rfl) ?_)
  | ((with_reducible show rIxT _ (V.ref _) (V.int _) _ _); with_reducible refine x_ixT (by walk_at "ht") (by first | assumption | with_unfolding_all exact atI_nat (j := 0) rfl | with_unfolding_all exact atI_nat (j := 1) rfl | with_unfolding_all rfl) ?_)
  | ((with_reducible show rIx _ (V.ref _) (V.int _) _ _); first
    | with_reducible refine x_ixSL (by walk_at "hl") (by first | assumption | with_unfolding_all exact atI_nat (j := 0) rfl | with_unfolding_all exact atI_nat (j := 1) rfl | with_unfolding_all rfl) ?_
    | with_reducible refine x_ixST (by walk_at "ht") (by first | assumption | with_unfolding_all exact atI_nat (j := 0) rfl | with_unfolding_all exact atI_nat (j := 1) rfl | with_unfolding_all rfl) ?_)
  | ((with_reducible show rSetL (V.ref _) (V.int _) _ _ _); with_reducible refine x_setL (by walk_at "hu") (by first | assumption | with_unfolding_all rfl) ?_)
  | with_reducible refine x_test ?_
  | with_reducible refine x_b ?_
  | with_reducible refine x_isb ?_
  | ((with_reducible show if decide _ = true then _ else _); with_reducible refine x_isdT (by first | with_unfolding_all rfl | with_unfolding_all decide) ?_)
  | ((with_reducible show if decide _ = true then _ else _); with_reducible refine x_isdF (by with_unfolding_all decide) ?_)
  | with_reducible refine x_isi ?_
  | with_reducible refine x_and ?_
  | with_reducible refine x_or ?_
  | with_reducible refine x_not ?_
  | with_reducible refine x_andV ?_
  | with_reducible refine x_orV ?_
  | with_reducible refine x_notV ?_
  | with_reducible refine x_ifx ?_
  | with_reducible refine x_nil ?_
  | with_reducible refine x_cons ?_
  | with_reducible refine x_cb ?_
  | with_reducible refine x_call ?_
  | with_reducible refine x_lst ?_
  | with_reducible refine x_tup ?_
  | with_reducible refine x_sl ?_
  | with_reducible refine x_nopart ?_
  | with_reducible refine x_part ?_
  | ((with_reducible show rSlL _ (V.ref _) _ _ _ _); with_reducible refine x_slL (by walk_at "hl") ?_)
  | with_reducible refine x_listRg1 ?_
  | with_reducible refine x_listRg2 ?_
  | with_reducible refine x_tupRg1 ?_
  | with_reducible refine x_ij ?_
  | ((with_reducible show tyV _ "list" (V.ref _) _ ∧ _); with_reducible refine x_tyL (by walk_at "hl") ?_)
  | with_reducible refine x_bm ?_
  | with_reducible refine x_bm0 ?_
  | with_reducible refine x_fldQ ?_
  | with_reducible refine x_par ?_
  | with_reducible refine x_par2 ?_
  | with_reducible refine x_chain ?_
  | ((with_reducible show tAug _ _ _ _ _ _); with_reducible refine x_aug (by with_unfolding_all rfl) ?_)
  | with_reducible refine x_ipI ?_
  | with_reducible refine x_for ?_
  | with_reducible refine x_while ?_
  | with_reducible refine x_ent ?_
  | with_reducible refine x_enl ?_
  | with_reducible refine x_isBk ?_
  | with_reducible refine x_notBk ?_
  | with_reducible refine x_mko ?_
  | with_reducible refine x_sfld ?_
  | with_reducible refine x_ost ?_
  | ((with_reducible show gTup _ _ _ (V.ref _) _ _ _); with_reducible refine x_gtup (by walk_at "ht") (by with_unfolding_all rfl) ?_)
  | with_reducible refine x_gcons ?_
  | with_reducible refine x_gnil ?_
  | with_reducible refine x_lc ?_
  | with_reducible refine x_lc2 ?_
  | with_reducible refine x_ilist ?_
  | with_reducible refine x_itup ?_
  | with_reducible refine x_rng1 ?_
  | with_reducible refine x_rng2v ?_
  | with_reducible refine x_irngV ?_
  | with_reducible refine x_star ?_
  | with_reducible refine x_rng2 ?_
  | with_reducible refine x_yes ?_
  | ((with_reducible show rLen _ [V.ref _] _ _); with_reducible refine x_lenL (by walk_at "hl") ?_)
  | ((with_reducible show rLen _ [V.ref _] _ _); with_reducible refine x_lenT (by walk_at "ht") ?_)
  | ((with_reducible show rListOf _ [V.ref _] _ _); with_reducible refine x_listL (by walk_at "hl") ?_)
  | ((with_reducible show rListOf _ [V.ref _] _ _); with_reducible refine x_listT (by walk_at "ht") ?_)
  | ((with_reducible show rTupOf _ [V.ref _] _ _); with_reducible refine x_tupL (by walk_at "hl") ?_)
  | ((with_reducible show rTupOf _ [V.ref _] _ _); with_reducible refine x_tupT (by walk_at "ht") ?_)
  | ((with_reducible show List.length _ ≤ sizeLine ∧ _); with_reducible refine And.intro (szLe (by with_unfolding_all (simp only [List.length_cons, List.length_nil]; decide))) ?_)
  | with_reducible refine x_int1 ?_
  | with_reducible refine x_abs ?_
  | with_reducible refine isi_non_int ?_
  | with_reducible refine isi_bl_int ?_
  | with_reducible refine isi_int_int ?_
  | with_reducible refine isi_str_int ?_
  | ((with_reducible show rIsi _ [V.ref _, V.ty "int"] _ _); first | with_reducible refine isi_lst_int (by walk_at "hu") ?_ | with_reducible refine isi_tup_int (by walk_at "hu") ?_ | with_reducible refine isi_dK_int (by walk_at "hu") ?_)
  | with_reducible refine isi_non_bool ?_
  | with_reducible refine isi_bl_bool ?_
  | with_reducible refine isi_int_bool ?_
  | with_reducible refine isi_str_bool ?_
  | ((with_reducible show rIsi _ [V.ref _, V.ty "bool"] _ _); first | with_reducible refine isi_lst_bool (by walk_at "hu") ?_ | with_reducible refine isi_tup_bool (by walk_at "hu") ?_ | with_reducible refine isi_dK_bool (by walk_at "hu") ?_)
  | with_reducible refine isi_non_tuple ?_
  | with_reducible refine isi_bl_tuple ?_
  | with_reducible refine isi_int_tuple ?_
  | with_reducible refine isi_str_tuple ?_
  | ((with_reducible show rIsi _ [V.ref _, V.ty "tuple"] _ _); first | with_reducible refine isi_lst_tuple (by walk_at "hu") ?_ | with_reducible refine isi_tup_tuple (by walk_at "hu") ?_ | with_reducible refine isi_dK_tuple (by walk_at "hu") ?_)
  | with_reducible refine isi_non_list ?_
  | with_reducible refine isi_bl_list ?_
  | with_reducible refine isi_int_list ?_
  | with_reducible refine isi_str_list ?_
  | ((with_reducible show rIsi _ [V.ref _, V.ty "list"] _ _); first | with_reducible refine isi_lst_list (by walk_at "hu") ?_ | with_reducible refine isi_tup_list (by walk_at "hu") ?_ | with_reducible refine isi_dK_list (by walk_at "hu") ?_)
  | with_reducible refine isi_non_dict ?_
  | with_reducible refine isi_bl_dict ?_
  | with_reducible refine isi_int_dict ?_
  | with_reducible refine isi_str_dict ?_
  | ((with_reducible show rIsi _ [V.ref _, V.ty "dict"] _ _); first | with_reducible refine isi_lst_dict (by walk_at "hu") ?_ | with_reducible refine isi_tup_dict (by walk_at "hu") ?_ | with_reducible refine isi_dK_dict (by walk_at "hu") ?_)
  | with_reducible refine isi_non_str ?_
  | with_reducible refine isi_bl_str ?_
  | with_reducible refine isi_int_str ?_
  | with_reducible refine isi_str_str ?_
  | ((with_reducible show rIsi _ [V.ref _, V.ty "str"] _ _); first | with_reducible refine isi_lst_str (by walk_at "hu") ?_ | with_reducible refine isi_tup_str (by walk_at "hu") ?_ | with_reducible refine isi_dK_str (by walk_at "hu") ?_)
  | ((with_reducible show rIsi _ [_, V.ty "int"] _ _); with_reducible refine x_isInt (by walk_at "kn") ?_)
  | ((with_reducible show rIsi _ [_, V.ty "bool"] _ _); with_reducible refine x_isBl (by walk_at "kn") ?_)
  | with_reducible refine x_nF ?_
  | with_reducible refine x_nT ?_
  | with_reducible refine iteT ?_
  | with_reducible refine iteF ?_)
local macro_rules | `(tactic| walk_at "hs") => `(tactic| repeat (walk_at "h1"; try dsimp only [Bool.not_true, Bool.not_false]))
local macro_rules | `(tactic| walk_at "h0") => `(tactic| ((try dsimp only [cxOf, L2.start, List.map_cons, List.map_nil, List.length_cons, List.length_nil, List.replicate, List.cons_append, List.nil_append, Nat.reduceAdd, Nat.reduceSub]); walk_at "hs"))

theorem sc__law_draw : FnScope ["_law_hand_here", "_law_many", "_law_cell", "_law_digit", "_law_number"] ["_law_hand_here", "_law_many"] (defScope s__law_draw) := ⟨rfl, rfl, rfl, by decide +kernel, rfl, by decide +kernel, by decide +kernel⟩
def PoolAt (H : Hp) (p : Addr) (F : Addr → Prop) : Prop := (∃ (g : Addr) (gs : List Int) (i c m n : Int), H p = some (.lst [.ref g, .int i, .int c, .int m, .int n]) ∧ H g = some (.lst (gs.map V.int)) ∧ 0 ≤ i ∧ g ≠ p ∧ ¬ F g ∧ ¬ F p) ∧ ∀ a, F a → ∃ o, H a = some o
def spDraw : Sp := fun vs H Q _ => ∃ (p : Addr) (m : Int) (F : Addr → Prop), vs = [.ref p, .int m] ∧ PoolAt H p F ∧ 0 < m ∧ m < 1073741824 ∧ ∀ (d : Int) H', 0 ≤ d → d < m → But p H H' → PoolAt H' p F → Q (.int d) H'
theorem prot {H H' : Hp} {p : Addr} {F : Addr → Prop} (b : But p H H') (h : ∀ a, F a → ∃ o, H a = some o) (n : ¬ F p) : ∀ a, F a → ∃ o, H' a = some o := fun a ha => by
  obtain ⟨o, e⟩ := h a ha
  exact ⟨o, b a o (fun z => n (z ▸ ha)) e⟩
section
variable {P : Program} {w : World} {K : PySem.W.Frag} {mg : Str → Option Value} {base : Heap} {Z : Ad}
theorem ok_draw {f : Addr} {fd : FuncData} (F : Fun K "_law_draw" "_law_draw" s__law_draw f fd) (B : Bl Z mg) : FnOk P w K mg base CX0 1 f fd ["_law_hand_here", "_law_many"] spDraw := by
  refine F.ok sc__law_draw (fun vs H Q E h => ?_) (fun cdv A outer s H vs Q E hr h => ?_)
  · obtain ⟨p, m, F, rfl, _⟩ := h
    rfl
  · obtain ⟨p, m, Fo, rfl, ⟨⟨g, gs, i, c, x, n, hp, hg, i0, ng, fg, fp⟩, hF⟩, m0, m1, q⟩ := h
    refine ⟨_, (C8.pss_cut (ps_if (PW.pt (pw_and (pt_cmpR op_eq (pe_ix (ix_listK (K := K) rfl) (pv 0) pe_int (fun _ _ => rfl)) pe_int (nomark _)) (pw_and1 (pt_cmpR op_lt (pe_ix (ix_listK (K := K) rfl) (pv 0) pe_int (fun _ _ => rfl)) (pe_callB (call_lenK (K := K) rfl) (by rfl) B.b_len PySem.boot_len (pa_cons (pe_ix (ix_listK (K := K) rfl) (pv 0) pe_int (fun _ _ => rfl)) pa_nil)) (nomark _))))) (pss_cons (ps_set (i := 2) sc__law_draw.nd rfl (Or.inl rfl) (pe_ix (ix_listK (K := K) rfl) (pe_ix (ix_listK (K := K) rfl) (pv 0) pe_int (fun _ _ => rfl)) (pe_ix (ix_listK (K := K) rfl) (pv 0) pe_int (fun _ _ => rfl)) (fun _ _ => rfl)))
 (pss_cons (ps_asg (pe_op op_add (pe_ix (ix_listK (K := K) rfl) (pv 0) pe_int (fun _ _ => rfl)) pe_int) (pg_sub (pv 0) pe_int set_list))
 (pss_cons (ps_asg (pe_op op_mod (pe_callTy call_int (by rfl) B.b_int (by decide +kernel) (pa_cons (pe_op op_add (pe_op op_add (pe_op op_mul (pe_ix (ix_listK (K := K) rfl) (pv 0) pe_int (fun _ _ => rfl)) pe_int) (pv 2)) pe_int) pa_nil)) pe_int) (pg_sub (pv 0) pe_int set_list))
 (pss_one (ps_if (pt_cmpR op_ge (pv 2) (pe_op op_pow pe_int pe_int) (nomark _)) (pss_one (ps_asg (pv 2) (pg_sub (pv 0) pe_int set_list))) pss_nil))))) pss_nil)
 (pss_cons (ps_if (pt_cmpR op_gt (pe_ix (ix_listK (K := K) rfl) (pv 0) pe_int (fun _ _ => rfl)) pe_int (nomark _)) (pss_cons (ps_set (i := 3) sc__law_draw.nd rfl (Or.inl rfl) (pe_op op_mod (pe_callTy call_int (by rfl) B.b_int (by decide +kernel) (pa_cons (pe_ix (ix_listK (K := K) rfl) (pv 0) pe_int (fun _ _ => rfl)) pa_nil)) (pv 1)))
 (pss_cons (ps_asg (pe_op op_fdiv (pe_ix (ix_listK (K := K) rfl) (pv 0) pe_int (fun _ _ => rfl)) (pv 1)) (pg_sub (pv 0) pe_int set_list))
 (pss_one (ps_ret (pv 3))))) pss_nil)
 (pss_cons (ps_asg (pe_op op_add (pe_ix (ix_listK (K := K) rfl) (pv 0) pe_int (fun _ _ => rfl)) pe_int) (pg_sub (pv 0) pe_int set_list))
 (pss_cons (ps_set (i := 4) sc__law_draw.nd rfl (Or.inl rfl) (pe_op op_mod (pe_callTy call_int (by rfl) B.b_int (by decide +kernel) (pa_cons (pe_op op_mul (pe_callTy call_int (by rfl) B.b_int (by decide +kernel) (pa_cons (pe_op op_add (pe_ix (ix_listK (K := K) rfl) (pv 0) pe_int (fun _ _ => rfl)) (pe_op op_mul pe_int (pe_ix (ix_listK (K := K) rfl) (pv 0) pe_int (fun _ _ => rfl)))) pa_nil)) pe_int) pa_nil)) pe_int))
 (pss_cons (ps_set (i := 4) sc__law_draw.nd rfl (Or.inl rfl) (pe_op op_mod (pe_callTy call_int (by rfl) B.b_int (by decide +kernel) (pa_cons (pe_op op_mul (pv 4) (pe_op op_add (pe_op op_fdiv (pv 4) pe_int) pe_int)) pa_nil)) pe_int))
 (pss_cons (ps_set (i := 4) sc__law_draw.nd rfl (Or.inl rfl) (pe_op op_mod (pe_callTy call_int (by rfl) B.b_int (by decide +kernel) (pa_cons (pe_op op_mul (pv 4) (pe_op op_add (pe_op op_fdiv (pv 4) pe_int) pe_int)) pa_nil)) pe_int))
 (pss_one (ps_ret (pe_op op_mod (pe_callTy call_int (by rfl) B.b_int (by decide +kernel) (pa_cons (pe_op op_fdiv (pv 4) pe_int) pa_nil)) (pv 1)))))))))), ?_⟩
    walk_at "h0"
    refine ⟨fun σ' H' => (∃ z, σ' = [some (.ref p), some (.int m), z, none, none]) ∧ But p H H' ∧ PoolAt H' p Fo, ?_, ?_⟩
    · walk_at "hs"
      refine x_isd (fun c1 => ?_) (fun c1 => ?_)
      · walk_at "hs"
        refine x_isd (fun c2 => ?_) (fun c2 => ?_)
        · obtain ⟨k, rfl⟩ := Int.eq_ofNat_of_zero_le i0
          have hk : k < gs.length := by
            rw [List.length_map] at c2
            omega
          have ag : atI (gs.map V.int) (k : Int) = some (.int gs[k]) := atI_nat (by rw [List.getElem?_map, List.getElem?_eq_getElem hk]; rfl)
          walk_at "hs"
          refine x_isd (fun c3 => ?_) (fun c3 => ?_)
          · walk_at "hs"
            exact ⟨⟨_, rfl⟩, by walk_at "bt", ⟨g, gs, _, _, _, n, upd_same, by walk_at "hu", by omega, ng, fg, fp⟩, prot (by walk_at "bt") hF fp⟩
          · walk_at "hs"
            exact ⟨⟨_, rfl⟩, by walk_at "bt", ⟨g, gs, _, _, _, n, upd_same, by walk_at "hu", by omega, ng, fg, fp⟩, prot (by walk_at "bt") hF fp⟩
        · walk_at "hs"
          exact ⟨⟨_, rfl⟩, But.refl _ _, ⟨g, gs, i, c, x, n, hp, hg, i0, ng, fg, fp⟩, hF⟩
      · walk_at "hs"
        exact ⟨⟨_, rfl⟩, But.refl _ _, ⟨g, gs, i, c, x, n, hp, hg, i0, ng, fg, fp⟩, hF⟩
    · rintro σ' H1 ⟨⟨z, rfl⟩, b1, ⟨g, gs, i, c, x, n, hp, hg, i0, ng, fg, fp⟩, hF⟩
      walk_at "hs"
      refine x_isd (fun c1 => ?_) (fun c1 => ?_)
      · walk_at "hs"
        exact q _ _ (Int.emod_nonneg _ (by omega)) (Int.emod_lt_of_pos _ m0) (by walk_at "bt") ⟨⟨g, gs, _, _, _, n, upd_same, by walk_at "hu", i0, ng, fg, fp⟩, prot (But.mut (But.refl _ _)) hF fp⟩
      · walk_at "hs"
        exact q _ _ (Int.emod_nonneg _ (by omega)) (Int.emod_lt_of_pos _ m0) (by walk_at "bt") ⟨⟨g, gs, _, _, _, _, upd_same, by walk_at "hu", i0, ng, fg, fp⟩, prot (But.mut (But.refl _ _)) hF fp⟩
end
set_option maxRecDepth 100000
set_option maxHeartbeats 1000000
open PySem PySem.Spec L2


theorem sc__law_hand : FnScope ["_law_script", "_law_cells", "_law_cell"] ["_law_script"] (defScope s__law_hand) := ⟨rfl, rfl, rfl, by decide +kernel, rfl, by decide +kernel, by decide +kernel⟩
section
variable {P : Program} {w : World} {K : PySem.W.Frag} {mg : Str → Option Value} {base : Heap} {Z : Ad}

theorem PoolAt.same {H H' : Hp} {p : Addr} {F : Addr → Prop} (s : Same H H') (h : PoolAt H p F) : PoolAt H' p F := by
  obtain ⟨⟨g, gs, i, c, x, n, hp, hg, r⟩, hF⟩ := h
  exact ⟨⟨g, gs, i, c, x, n, s _ _ hp, s _ _ hg, r⟩, fun a ha => by
    obtain ⟨o, e⟩ := hF a ha
    exact ⟨o, s _ _ e⟩⟩
theorem PoolAt.ne {H : Hp} {p q : Addr} {F : Addr → Prop} (h : PoolAt H p F) (hq : H q = none) : q ≠ p := by
  obtain ⟨⟨g, gs, i, c, x, n, hp, _⟩, _⟩ := h
  exact ne_none' hq hp
theorem PoolAt.neF {H : Hp} {p q : Addr} {F : Addr → Prop} (h : PoolAt H p F) (hq : F q) : q ≠ p := by
  obtain ⟨⟨g, gs, i, c, x, n, hp, hg, i0, ng, fg, fp⟩, _⟩ := h
  exact fun e => fp (e ▸ hq)
theorem PoolAt.newH {H : Hp} {p q : Addr} {o : HO} {F : Addr → Prop} (h : PoolAt H p F) (hq : H q = none) : PoolAt (upd H q o) p F := h.same (same_new (Same.refl H) hq)
theorem PoolAt.own {H : Hp} {p q : Addr} {o : HO} {F : Addr → Prop} (h : PoolAt H p F) (hq : H q = none) : PoolAt (upd H q o) p (fun a => a = q ∨ F a) := by
  obtain ⟨⟨g, gs, i, c, x, n, hp, hg, i0, ng, fg, fp⟩, hF⟩ := h
  refine ⟨⟨g, gs, i, c, x, n, keepN hp hq, keepN hg hq, i0, ng, fun e => ?_, fun e => ?_⟩, fun a ha => ?_⟩
  · exact e.elim (ne_of_none hg hq) fg
  · exact e.elim (ne_of_none hp hq) fp
  · rcases ha with rfl | ha
    · exact ⟨o, upd_same⟩
    · obtain ⟨u, e⟩ := hF a ha
      exact ⟨u, keepN e hq⟩
theorem PoolAt.mut {H : Hp} {p q : Addr} {o : HO} {F : Addr → Prop} (h : PoolAt H p F) (hq : F q) : PoolAt (upd H q o) p F := by
  obtain ⟨⟨g, gs, i, c, x, n, hp, hg, i0, ng, fg, fp⟩, hF⟩ := h
  refine ⟨⟨g, gs, i, c, x, n, keepM (fun e => fp (e ▸ hq)) hp, keepM (fun e => fg (e ▸ hq)) hg, i0, ng, fg, fp⟩, fun a ha => ?_⟩
  by_cases e : a = q
  · exact ⟨o, by rw [e, upd_same]⟩
  · obtain ⟨u, hu⟩ := hF a ha
    exact ⟨u, keepM e hu⟩
theorem PoolAt.weak {H : Hp} {p : Addr} {F G : Addr → Prop} (h : PoolAt H p F) (w : ∀ a, G a → F a) : PoolAt H p G := by
  obtain ⟨⟨g, gs, i, c, x, n, hp, hg, i0, ng, fg, fp⟩, hF⟩ := h
  exact ⟨⟨g, gs, i, c, x, n, hp, hg, i0, ng, fun e => fg (w _ e), fun e => fp (w _ e)⟩, fun a ha => hF a (w a ha)⟩
def spPool (K : PySem.W.Frag) : Sp := fun vs H Q _ => ∃ (a : Addr) (ns : List Int), vs = [.ref a] ∧ SqL K H a (ns.map V.int) ∧ ns.length ≤ 63 ∧ ∀ p H', Same H H' → H p = none → PoolAt H' p (fun _ => False) → Q (.ref p) H'
theorem ok_hand {f : Addr} {fd : FuncData} (F : Fun K "_law_hand" "_law_hand" s__law_hand f fd) (B : Bl Z mg) : FnOk P w K mg base CX0 1 f fd ["_law_script"] (spPool K) := by
  refine F.ok sc__law_hand (fun vs H Q E h => ?_) (fun cdv A outer s H vs Q E hr h => ?_)
  · obtain ⟨a, ns, rfl, _⟩ := h
    rfl
  · obtain ⟨a, ns, rfl, hS, hl, q⟩ := h
    refine ⟨_, (pss_cons (ps_setLc (i := 1) (own := [("_law_cell", 2)]) rfl sc__law_hand.nd rfl rfl (sw_true rfl rfl rfl (by decide +kernel)) (pi_list (pe_slice (sl_listK (K := K) rfl) (pv 0) po_none (po_some pe_int))) (blkOk_by (N := ["_law_script", "_law_cells", "_law_cell"]) (sc := defScope s__law_hand) (by decide +kernel)) (fun _ _ _ _ _ => (pg_name (i := 2) sc__law_hand.nd rfl (Or.inl rfl))) (fun _ _ _ _ _ => pts_nil) (fun _ _ _ _ _ => (pe_callB call_ab (by rfl) B.b_abs (by decide +kernel) (pa_cons (pe_callTy call_int (by rfl) B.b_int (by decide +kernel) (pa_cons (pv 2) pa_nil)) pa_nil))))
 (pss_one (ps_ret (pe_lst (pa_cons (pv 1) (pa_cons pe_int (pa_cons pe_int (pa_cons (pe_op op_add pe_int (pe_callB (call_lenK (K := K) rfl) (by rfl) B.b_len PySem.boot_len (pa_cons (pv 1) pa_nil))) (pa_cons pe_int pa_nil))))))))), ?_⟩
    walk_at "h0"
    intro c hc
    refine ⟨c, rfl, ⟨_, SqL.of upd_same⟩, fun D hD => ?_⟩
    have hcD : D ≠ c := by walk_at "ne"
    have nD : H D = none := Same.free (H' := upd H c _) (same_new (Same.refl _) hc) hD
    have hsz : (cutV (ns.map V.int) none (some 63)).length ≤ 63 := Nat.le_trans (cutV_length _ _ _) (by rw [List.length_map]; exact hl)
    have hints : ∀ x ∈ cutV (ns.map V.int) none (some 63), ∃ n : Int, x = .int n := fun x hx => by
      obtain ⟨n, _, rfl⟩ := List.mem_map.mp (List.mem_of_mem_drop (List.mem_of_mem_take hx))
      exact ⟨n, rfl⟩
    refine lc_list (K := K) (a := c) (xs := cutV (ns.map V.int) none (some 63)) (fun i H' => ∃ g : List Int, g.length ≤ i ∧ Same H H' ∧ H' c = some (.lst (cutV (ns.map V.int) none (some 63))) ∧ H' D = some (.lst (g.map V.int)))
      ⟨[], Nat.le_refl _, by walk_at "sm", by walk_at "hu", upd_same⟩ (fun i H' _ ⟨_, _, _, e, _⟩ => SqL.of e) ?_ ?_
    · rintro i x H' hx ⟨g, hg, s', ec, eD⟩
      obtain ⟨n, rfl⟩ := hints x (List.mem_of_getElem? hx)
      walk_at "hs"
      refine ⟨rfl, ?_⟩
      walk_at "hs"
      refine ⟨_, eD, szLt (by rw [List.length_map]; have := (List.getElem?_eq_some_iff.mp hx).1; omega), g ++ [if n < 0 then -n else n], by rw [List.length_append]; exact Nat.add_le_add_right hg 1, by walk_at "sm", by walk_at "hu", ?_⟩
      rw [upd_same, List.map_append]
      rfl
    · rintro H1 ⟨g, hg, s1, ec, eD⟩
      walk_at "hs"
      intro p hp
      exact q p _ (by walk_at "sm") (s1.free hp) ⟨⟨D, g, _, _, _, _, upd_same, by walk_at "hu", by decide, by walk_at "ne", fun e => e, fun e => e⟩, fun a e => e.elim⟩
end
set_option maxRecDepth 100000
set_option maxHeartbeats 1000000
open PySem PySem.Spec L2


theorem sc_is_within : FnScope ["least", "most", "thing"] ["least", "most", "thing"] (defScope s_is_within) := ⟨rfl, rfl, rfl, by decide +kernel, rfl, by decide +kernel, by decide +kernel⟩
section
variable {P : Program} {w : World} {K : PySem.W.Frag} {mg : Str → Option Value} {base : Heap} {Z : Ad}

def spWithin : Sp := fun vs H Q _ => ∃ (x : V) (lo hi : Int), vs = [.int lo, .int hi, x] ∧ Kn H x ∧ Q (.bl (numV lo hi x)) H
theorem ok_within {f : Addr} {fd : FuncData} (F : Fun K "is_within" "is_within" s_is_within f fd) (B : Bl Z mg) : FnOk P w K mg base CX0 1 f fd ["least", "most", "thing"] spWithin := by
  refine F.ok sc_is_within (fun vs H Q E h => ?_) (fun cdv A outer s H vs Q E hr h => ?_)
  · obtain ⟨x, lo, hi, rfl, _⟩ := h
    rfl
  · obtain ⟨x, lo, hi, rfl, hk, q⟩ := h
    refine ⟨_, (pss_cons (ps_if (PW.pt (pw_or (pt_not (pt_val (pe_callB (call_isiK' (K := K) rfl) (by rfl) B.b_isinstance (by decide +kernel) (pa_cons (pv 2) (pa_cons (pe_bltn (v := .ty "int") (by rfl) B.b_int (by decide +kernel) rfl) pa_nil))))) (pw_or1 (pt_val (pe_callB (call_isiK' (K := K) rfl) (by rfl) B.b_isinstance (by decide +kernel) (pa_cons (pv 2) (pa_cons (pe_bltn (v := .ty "bool") (by rfl) B.b_bool (by decide +kernel) rfl) pa_nil))))))) (pss_one (ps_ret pe_bl)) pss_nil)
 (pss_one (ps_ret (pe_chain op_le op_le (pv 0) (pv 2) (pv 1))))), ?_⟩
    walk_at "h0"
    cases x with
    | bl b =>
      walk_at "hs"
      refine iteF ?_
      walk_at "hs"
      exact q
    | int i =>
      refine iteF ?_
      walk_at "hs"
      refine x_isd (fun c => ?_) (fun c => ?_)
      · walk_at "hs"
        have e : numV lo hi (.int i) = decide (i ≤ hi) := numT c
        rw [← e]
        exact q
      · have e : numV lo hi (.int i) = false := numF c
        rw [e] at q
        exact q
    | non => exact iteT (iteT q)
    | str s => exact iteT (iteT q)
    | ref a => exact iteT (iteT q)
    | _ => exact hk.elim
end
set_option maxRecDepth 100000
set_option maxHeartbeats 1000000
open PySem PySem.Spec L2


section
variable {P : Program} {w : World} {K : PySem.W.Frag} {mg : Str → Option Value} {base : Heap} {Z : Ad}
end
set_option maxRecDepth 100000
set_option maxHeartbeats 1000000
open PySem PySem.Spec L2


theorem sc__comes_to_head : FnScope ["hung", "block", "place", "steps"] ["hung", "block"] (defScope s__comes_to_head) := ⟨rfl, rfl, rfl, by decide +kernel, rfl, by decide +kernel, by decide +kernel⟩
section
variable {P : Program} {w : World} {K : PySem.W.Frag} {mg : Str → Option Value} {base : Heap} {Z : Ad}

def spComes (K : PySem.W.Frag) : Sp := fun vs H Q _ => ∃ (t : Addr) (hs : List Nat) (k : Nat), vs = [.ref t, .int k] ∧ SqT K H t (nats hs) ∧ (∀ x ∈ hs, x ≤ hs.length) ∧ k ≤ hs.length ∧ Q (.bl (decide (upN hs hs.length k = 0))) H
theorem ok_comes {f : Addr} {fd : FuncData} (F : Fun K "_comes_to_head" "_comes_to_head" s__comes_to_head f fd) (B : Bl Z mg) : FnOk P w K mg base CX0 1 f fd ["hung", "block"] (spComes K) := by
  refine F.ok sc__comes_to_head (fun vs H Q E h => ?_) (fun cdv A outer s H vs Q E hr h => ?_)
  · obtain ⟨t, hs, k, rfl, _⟩ := h
    rfl
  · obtain ⟨t, hs, k, rfl, ht, hle, hk, q⟩ := h
    refine ⟨_, (pss_cons (ps_set (i := 2) sc__comes_to_head.nd rfl (Or.inl rfl) (pv 1))
 (pss_cons (ps_set (i := 3) sc__comes_to_head.nd rfl (Or.inl rfl) pe_int)
 (pss_cons (ps_while PassesOwn.never (PW.pt (pw_and (pt_cmpR op_ne (pv 2) pe_int (nomark _)) (pw_and1 (pt_cmpR op_lt (pv 3) (pe_callB (call_lenK (K := K) rfl) (by rfl) B.b_len PySem.boot_len (pa_cons (pv 0) pa_nil)) (nomark _))))) (pss_cons (ps_set (i := 2) sc__comes_to_head.nd rfl (Or.inl rfl) (pe_ix (ix_tupK (K := K) rfl) (pv 0) (pe_op op_sub (pv 2) pe_int) (fun _ _ => rfl)))
 (pss_one (ps_aug (i := 3) sc__comes_to_head.nd rfl (Or.inl rfl) pe_int ip_add))))
 (pss_one (ps_ret (pe_cmpR op_eq (pv 2) pe_int (nomark _))))))), ?_⟩
    walk_at "h0"
    refine ⟨fun m σ' H' => ∃ st : Nat, st + m = hs.length ∧ σ' = [some (.ref t), some (.int k), some (.int (upN hs st k : Nat)), some (.int st)] ∧ H' = H, ⟨hs.length, 0, Nat.zero_add _, rfl, rfl⟩, ?_⟩
    rintro m σ' H' ⟨st, hst, rfl, rfl⟩
    walk_at "hs"
    refine x_isd (fun c => ?_) (fun c => ?_)
    · walk_at "hs"
      rw [nats_length]
      refine x_isd (fun c2 => ?_) (fun c2 => ?_)
      · have hup := upN_le hle st k hk
        have hat : atI (nats hs) ((upN hs st k : Nat) - 1 : Int) = some (.int (upN hs (st + 1) k : Nat)) := by
          rw [show ((upN hs st k : Nat) - 1 : Int) = ((upN hs st k - 1 : Nat) : Int) by omega]
          refine nats_at ?_
          rw [upN_succ]
          have h1 : upN hs st k - 1 < hs.length := by omega
          rw [List.getElem?_eq_getElem h1]
          have := up_at (hs := hs) (k := upN hs st k) (by omega) (List.getElem?_eq_getElem h1)
          rw [this]
        walk_at "hs"
        refine ⟨fun σ' H2 => σ' = [some (.ref t), some (.int k), some (.int (upN hs (st + 1) k : Nat)), some (.int ((st + 1 : Nat) : Int))] ∧ H2 = H', fun σ' H2 hN => ⟨m - 1, by omega, st + 1, by omega, hN.1, hN.2⟩, ?_⟩
        walk_at "hs"
        exact ⟨rfl, rfl⟩
      · walk_at "hs"
        have e : st = hs.length := by omega
        rw [← e] at q
        have e2 : decide (((upN hs st k : Nat) : Int) = 0) = decide (upN hs st k = 0) := by
          rw [decide_eq_decide]
          omega
        rw [e2]
        exact q
    · walk_at "hs"
      have h0 : upN hs st k = 0 := by omega
      have h1 := upN_more (j := hs.length) h0 (by omega)
      rw [h1] at q
      rw [h0]
      exact q
def dueV : Due → V
  | .hung => .str "hung"
  | .block k => .int k
  | .ring _ => .non
  | .ok => .non
def TellsDue (H : Hp) (v : V) : Due → Prop
  | .hung => v = .str "hung"
  | .block k => v = .int (k : Nat)
  | .ring k => ∃ a, v = .ref a ∧ H a = some (.tup [.str "ring", .int (k : Nat)])
  | .ok => v = .non
def DueV (H : Hp) (x : V) (d : Due) : Prop := (∃ a xs, x = .ref a ∧ H a = some (.tup xs) ∧ DueIs xs d ∧ ∀ y ∈ xs, Kn H y) ∨ ((∀ a xs, x = .ref a → H a ≠ some (.tup xs)) ∧ Kn H x ∧ d = .hung)
theorem kn_not {x : V} {H : Hp} {Q : VK} (h : ∀ a xs, x = .ref a → H a ≠ some (.tup xs)) (k : Kn H x) (q : Q (.bl false) H) : rIsi K [x, .ty "tuple"] H Q := by
  cases x with
  | non => exact isi_non_tuple q
  | bl b => exact isi_bl_tuple q
  | int b => exact isi_int_tuple q
  | str b => exact isi_str_tuple q
  | ref a =>
    rcases k with ⟨xs, e⟩ | ⟨xs, e⟩ | ⟨xs, e⟩
    · exact isi_lst_tuple e q
    · exact (h a xs rfl e).elim
    · exact isi_dK_tuple e q
  | _ => exact k.elim
end
set_option maxRecDepth 100000
set_option maxHeartbeats 1000000
open PySem PySem.Spec L2


theorem sc_BadTree___init__ : FnScope ["self", "part"] ["self", "part"] (defScope s_BadTree___init__) := ⟨rfl, rfl, rfl, by decide +kernel, rfl, by decide +kernel, by decide +kernel⟩
theorem sc_Tree___init__ : FnScope ["self", "hung", "block", "place"] ["self", "hung"] (defScope s_Tree___init__) := ⟨rfl, rfl, rfl, by decide +kernel, rfl, by decide +kernel, by decide +kernel⟩
section
variable {P : Program} {w : World} {K : PySem.W.Frag} {mg : Str → Option Value} {base : Heap} {Z : Ad}

theorem ok_bad {f : Addr} {fd : FuncData} (F : Fun K "__init__" "BadTree.__init__" s_BadTree___init__ f fd) (X_BadTree : ExcF K Z.a_BadTree f "part") : FnOk P w K mg base CX0 1 f fd ["self", "part"] (spField Z.a_BadTree "part") := by
  refine F.ok sc_BadTree___init__ (fun vs H Q E h => ?_) (fun cdv A outer s H vs Q E hr h => ?_)
  · obtain ⟨a, v, rfl, _⟩ := h
    rfl
  · obtain ⟨a, v, rfl, ha, q⟩ := h
    refine ⟨_, (pss_one (ps_ost (pv 0) (pv 1))), ?_⟩
    walk_at "h0"
    exact ⟨a, _, rfl, X_BadTree.T, X_BadTree.n, .inl ⟨ha, q⟩⟩
def spTree (Z : Ad) : Sp := fun vs H Q E => ∃ (x dx : Addr) (h : V), vs = [.ref x, h] ∧ H x = some (.ins Z.a_Tree dx []) ∧ ((∃ a xs, h = .ref a ∧ H a = some (.tup xs) ∧ ∀ y ∈ xs, Kn H y) ∨ ((∀ a xs, h = .ref a → H a ≠ some (.tup xs)) ∧ Kn H h)) ∧
  (∀ H', DueV H h .ok → But x H H' → H' x = some (.ins Z.a_Tree dx [("hung", h)]) → Q .non H') ∧ (∀ (d : Due) (e : Addr) (v : V) H', d ≠ .ok → DueV H h d → TellsDue H' v d → Same H H' → H' e = some (.xd [("part", v)]) → E (.ref Z.a_BadTree) (some e) H')
theorem ok_tree {f : Addr} {fd : FuncData} (F : Fun K "__init__" "Tree.__init__" s_Tree___init__ f fd) (B : Bl Z mg) (T : Cls K Z.a_Tree) (N : NoAttr K Z.a_Tree "hung") {f_is_within : Addr} {fd_is_within : FuncData} (C_is_within : Cal K mg "is_within" f_is_within fd_is_within ["least", "most", "thing"]) (G_is_within : FnOk P w K mg base CX0 1 f_is_within fd_is_within ["least", "most", "thing"] spWithin) {f__comes_to_head : Addr} {fd__comes_to_head : FuncData} (C__comes_to_head : Cal K mg "_comes_to_head" f__comes_to_head fd__comes_to_head ["hung", "block"]) (G__comes_to_head : FnOk P w K mg base CX0 1 f__comes_to_head fd__comes_to_head ["hung", "block"] (spComes K))
    {f_BadTree___init__ : Addr} {fd_BadTree___init__ : FuncData} (C_BadTree___init__ : CalM K f_BadTree___init__ fd_BadTree___init__ ["self", "part"]) (G_BadTree___init__ : FnOk P w K mg base CX0 1 f_BadTree___init__ fd_BadTree___init__ ["self", "part"] (spField Z.a_BadTree "part")) (X_BadTree : ExcF K Z.a_BadTree f_BadTree___init__ "part") : FnOk P w K mg base (L2.CX P w) 3 f fd ["self", "hung"] (spTree Z) := by
  refine F.okX sc_Tree___init__ (fun vs H Q E h => ?_) (fun cdv A outer s H vs Q E hr h => ?_)
  · obtain ⟨x, dx, h, rfl, _⟩ := h
    rfl
  · obtain ⟨x, dx, hv, rfl, hx, hk, q, qe⟩ := h
    refine ⟨_, (pss_cons (ps_if (PW.pt (pw_or (pt_not (pt_val (pe_callB (call_isiK' (K := K) rfl) (by rfl) B.b_isinstance (by decide +kernel) (pa_cons (pv 1) (pa_cons (pe_bltn (v := .ty "tuple") (by rfl) B.b_tuple (by decide +kernel) rfl) pa_nil))))) (pw_or1 (pt_not (pt_chain op_le op_le pe_int (pe_callB (call_lenK (K := K) rfl) (by rfl) B.b_len PySem.boot_len (pa_cons (pv 1) pa_nil)) (pe_glob (v := .int (40)) rfl B.c_MOST_BLOCKS ⟨_, rfl⟩)))))) (pss_one (ps_raise rfl (takes_of rfl rfl rfl rfl) (pmk_oex X_BadTree.T X_BadTree.i X_BadTree.t G_BadTree___init__ (hr.mono (by first | decide | omega)) C_BadTree___init__.b .nil pass0 (by rfl) B.k_BadTree (pa_cons pe_str pa_nil)))) pss_nil)
 (pss_cons (ps_for (passes_of rfl) rfl (pi_enumTK (K := K) rfl rfl (by rfl) B.b_enumerate (by decide) (by decide) (pa_cons (pv 1) pa_nil)) (pg_tup rfl (pgs_cons (pg_name (i := 2) sc_Tree___init__.nd rfl (Or.inl rfl)) (pgs_cons (pg_name (i := 3) sc_Tree___init__.nd rfl (Or.inl rfl)) pgs_nil))) (pss_one (ps_if (PW.pt (pw_or (pt_not (pt_val (pe_call G_is_within (hr.mono (by first | decide | omega)) (by rfl) C_is_within.g C_is_within.k C_is_within.b .nil pass0 (pa_cons pe_int (pa_cons (pe_callB (call_lenK (K := K) rfl) (by rfl) B.b_len PySem.boot_len (pa_cons (pv 1) pa_nil)) (pa_cons (pv 3) pa_nil)))))) (pw_or1 (pt_cmpR op_eq (pv 3) (pv 2) (nomark _))))) (pss_one (ps_raise rfl (takes_of rfl rfl rfl rfl) (pmk_oex X_BadTree.T X_BadTree.i X_BadTree.t G_BadTree___init__ (hr.mono (by first | decide | omega)) C_BadTree___init__.b .nil pass0 (by rfl) B.k_BadTree (pa_cons (pv 2) pa_nil)))) pss_nil)))
 (pss_cons (ps_for (passes_of rfl) rfl (pi_range2 rfl B.b_range (pa_cons pe_int (pa_cons (pe_op op_add (pe_callB (call_lenK (K := K) rfl) (by rfl) B.b_len PySem.boot_len (pa_cons (pv 1) pa_nil)) pe_int) pa_nil))) (pg_name (i := 2) sc_Tree___init__.nd rfl (Or.inl rfl)) (pss_one (ps_if (pt_not (pt_val (pe_call G__comes_to_head (hr.mono (by first | decide | omega)) (by rfl) C__comes_to_head.g C__comes_to_head.k C__comes_to_head.b .nil pass0 (pa_cons (pv 1) (pa_cons (pv 2) pa_nil))))) (pss_one (ps_raise rfl (takes_of rfl rfl rfl rfl) (pmk_oex X_BadTree.T X_BadTree.i X_BadTree.t G_BadTree___init__ (hr.mono (by first | decide | omega)) C_BadTree___init__.b .nil pass0 (by rfl) B.k_BadTree (pa_cons (pe_tup (pa_cons pe_str (pa_cons (pv 2) pa_nil))) pa_nil)))) pss_nil)))
 (pss_one (ps_fld (pv 0) (pv 1) rfl))))), ?_⟩
    have raised : ∀ (d : Due) (v : V) H1, d ≠ .ok → DueV H hv d → Same H H1 → (∀ H2, Same H1 H2 → TellsDue H2 v d) → [v].length ≤ 1000 ∧ ∀ a, H1 a = none → spField Z.a_BadTree "part" (.ref a :: ([v] ++ [])) (upd H1 a (exo a Z.a_BadTree none)) (fun v H2 => v = .non ∧ ∃ (d : Addr) (fs : List (Str × V)), H2 a = some (exo a Z.a_BadTree (some d)) ∧ H2 d = some (exd d fs) ∧ H1 d = none ∧ E (.ref Z.a_BadTree) (some d) (upd (del H2 a) d (.xd fs))) (fun _ _ _ => False) := fun d v H1 nd hd s1 ht =>
      mk_field fun e H' s2 _ he => qe d e v H' nd hd (ht H' s2) (s1.trans s2) he
    rcases hk with ⟨a, xs, rfl, ha, hk⟩ | ⟨hn, hk⟩
    · have qq : ∀ (d : Due) (v : V) H1, d ≠ .ok → DueIs xs d → Same H H1 → (∀ H2, Same H1 H2 → TellsDue H2 v d) → _ := fun d v H1 nd hd => raised d v H1 nd (.inl ⟨a, xs, rfl, ha, hd, hk⟩)
      have nxa : x ≠ a := fun e => by
        rw [e, ha] at hx
        cases hx
      walk_at "h0"
      refine x_isd (fun c1 => ?_) (fun c1 => ?_)
      · walk_at "hs"
        refine x_isnd (fun c2 => ?_) (fun c2 => ?_)
        · walk_at "hs"
          exact qq .hung _ H (fun e => by cases e) (.hung (by omega)) (Same.refl _) fun _ _ => rfl
        · walk_at "hs"
          refine x_ent1 (.of ha) ?_
          refine lp_enumT (K := K) (xs := xs) (fun i σ' H' => (∃ x2 x3, σ' = [some (.ref x), some (.ref a), x2, x3]) ∧ Same H H' ∧ ∀ j y, j < i → xs[j]? = some y → ¬ badV xs.length j y)
            ⟨⟨_, _, rfl⟩, Same.refl _, fun j y h => absurd h (Nat.not_lt_zero _)⟩ (fun i σ' H' _ h => .of (h.2.1 _ _ ha)) ?_ ?_
          · rintro i xi σ' H' T hxi ⟨⟨x2, x3, rfl⟩, s1, hgood⟩ hT
            have ha1 := s1 _ _ ha
            have kx := (hk _ (List.mem_of_getElem? hxi)).same (same_new (o := .tup [.int (1 + (i : Int)), xi]) s1 hT)
            have hi := (List.getElem?_eq_some_iff.mp hxi).1
            have bad : badV xs.length i xi → _ := fun b => qq (.block (i + 1)) (.int (1 + (i : Int))) (upd H' T (.tup [.int (1 + (i : Int)), xi])) (fun e => by cases e) (.block (by omega) (by omega) hgood hxi b) (same_new s1 hT) (fun _ _ => by
              show V.int (1 + (i : Int)) = V.int ((i + 1 : Nat) : Int)
              congr 1
              omega)
            walk_at "hs"
            refine ⟨_, _, _, rfl, kx, ?_⟩
            walk_at "hs"
            cases hn : numV 0 xs.length xi with
            | false =>
              walk_at "hs"
              exact bad (.inl hn)
            | true =>
              obtain ⟨z, rfl, z0, z1⟩ := num_int hn
              walk_at "hs"
              refine x_isd (fun c => ?_) (fun c => ?_)
              · walk_at "hs"
                exact bad (.inr (by rw [c]; congr 1; omega))
              · walk_at "hs"
                refine ⟨⟨_, _, rfl⟩, same_new s1 hT, fun j y hj hy => ?_⟩
                by_cases e : j = i
                · subst e
                  rw [hxi] at hy
                  cases hy
                  rintro (h | h)
                  · rw [hn] at h
                    cases h
                  · injection h with h
                    exact c (by rw [h]; omega)
                · exact hgood j y (by omega) hy
          · rintro σ' H' ⟨⟨x2, x3, rfl⟩, s1, hgood⟩
            have ha1 := s1 _ _ ha
            have hgood' : ∀ (j : Nat) y, xs[j]? = some y → ¬ badV xs.length j y := fun j y hy => hgood j y (by have := (List.getElem?_eq_some_iff.mp hy).1; omega) hy
            obtain ⟨hs, rfl, hle⟩ := good_nats xs.length fun j y hy => by
              cases hn : numV 0 xs.length y with
              | true => rfl
              | false => exact (hgood' j y hy (.inl hn)).elim
            have hlen := nats_length hs
            rw [hlen] at hle
            walk_at "hs"
            refine ⟨1, ((nats hs).length : Int) + 1, rfl, ⟨by omega, by omega, by omega, by omega⟩, ?_⟩
            refine lp_range (lo := 1) (n := Int.toNat (((nats hs).length : Int) + 1 - 1)) (fun i σ' H2 => (∃ x2 x3, σ' = [some (.ref x), some (.ref a), x2, x3]) ∧ Same H H2 ∧ ∀ j, 1 ≤ j → j < i + 1 → upN hs hs.length j = 0)
              ⟨⟨_, _, rfl⟩, s1, fun j h1 h2 => by omega⟩ ?_ ?_
            · rintro i σ' H2 hi ⟨⟨x2, x3, rfl⟩, s2, hz⟩
              have ha2 := s2 _ _ ha
              walk_at "hs"
              refine ⟨a, hs, i + 1, by rw [show 1 + (i : Int) = ((i + 1 : Nat) : Int) by omega]; rfl, .of ha2, hle, by omega, ?_⟩
              walk_at "hs"
              refine x_isnd (fun c => ?_) (fun c => ?_)
              · walk_at "hs"
                intro p hp
                walk_at "hs"
                refine qq (.ring (i + 1)) _ _ (fun e => by cases e) (.ring (by omega) (by omega) rfl hgood' (fun j h1 h2 => hz j h1 h2) (by omega) (by omega) c) (same_new s2 hp) fun H3 s3 => ⟨p, rfl, ?_⟩
                rw [s3 _ _ upd_same, show (1 + (i : Int)) = ((i + 1 : Nat) : Int) by omega]
              · walk_at "hs"
                refine ⟨⟨_, _, rfl⟩, s2, fun j h1 h2 => ?_⟩
                by_cases e : j = i + 1
                · rw [e]
                  exact c
                · exact hz j h1 (by omega)
            · rintro σ' H2 ⟨⟨x2, x3, rfl⟩, s2, hz⟩
              have hx2 := s2 _ _ hx
              walk_at "hs"
              refine ⟨x, _, dx, _, rfl, hx2, T, N, by decide, ?_⟩
              walk_at "hs"
              refine q _ (.inl ⟨a, nats hs, rfl, ha, .ok ⟨by omega, by omega, hle, fun k hk => by
                by_cases h0 : k = 0
                · rw [h0]
                  exact upN_zero hs _
                · exact hz k (by omega) (by omega)⟩ rfl hgood', hk⟩) (But.mut (.of s2)) upd_same
      · walk_at "hs"
        exact qq .hung _ H (fun e => by cases e) (.hung (by omega)) (Same.refl _) fun _ _ => rfl
    · walk_at "h0"
      refine kn_not hn hk ?_
      walk_at "hs"
      exact raised .hung _ H (fun e => by cases e) (.inr ⟨hn, hk, rfl⟩) (Same.refl _) fun _ _ => rfl
end
set_option maxRecDepth 100000
set_option maxHeartbeats 1000000
open PySem PySem.Spec L2


section
variable {P : Program} {w : World} {K : PySem.W.Frag} {mg : Str → Option Value} {base : Heap} {Z : Ad}

def TreeAt (Z : Ad) (H : Hp) (x : Addr) (hs : List Nat) : Prop := ∃ dx t, H x = some (.ins Z.a_Tree dx [("hung", .ref t)]) ∧ H t = some (.tup (nats hs))
theorem TreeAt.same {H H' : Hp} {x : Addr} {hs : List Nat} (s : Same H H') (h : TreeAt Z H x hs) : TreeAt Z H' x hs := by
  obtain ⟨dx, t, h1, h2⟩ := h
  exact ⟨dx, t, s _ _ h1, s _ _ h2⟩
end
set_option maxRecDepth 100000
set_option maxHeartbeats 1000000
open PySem PySem.Spec L2


section
variable {P : Program} {w : World} {K : PySem.W.Frag} {mg : Str → Option Value} {base : Heap} {Z : Ad}

end
set_option maxRecDepth 100000
set_option maxHeartbeats 1000000
open PySem PySem.Spec L2


section
variable {P : Program} {w : World} {K : PySem.W.Frag} {mg : Str → Option Value} {base : Heap} {Z : Ad}

def Thing (H : Hp) (x : V) : Prop := (∃ a xs, x = .ref a ∧ H a = some (.tup xs) ∧ ∀ y ∈ xs, Kn H y) ∨ ((∀ a xs, x = .ref a → H a ≠ some (.tup xs)) ∧ Kn H x)
theorem Thing.same {H H' : Hp} {x : V} (s : Same H H') (h : Thing H x) : Thing H' x := by
  rcases h with ⟨a, xs, rfl, ha, hk⟩ | ⟨hn, hk⟩
  · exact .inl ⟨a, xs, rfl, s _ _ ha, fun y hy => (hk y hy).same s⟩
  · refine .inr ⟨fun a xs e ha => ?_, hk.same s⟩
    subst e
    rcases hk with ⟨ys, e⟩ | ⟨ys, e⟩ | ⟨ys, e⟩
    · have := (s _ _ e).symm.trans ha
      cases this
    · exact hn a ys rfl e
    · have := (s _ _ e).symm.trans ha
      cases this
theorem Thing.back {H H' : Hp} {x : V} {d : Due} (h : Thing H x) (s : Same H H') (hd : DueV H' x d) : DueV H x d := by
  rcases h with ⟨a, xs, rfl, ha, hk⟩ | ⟨hn, hk⟩
  · rcases hd with ⟨b, ys, e, hb, hi, _⟩ | ⟨hn, _, _⟩
    · cases e
      have := (s _ _ ha).symm.trans hb
      cases this
      exact .inl ⟨a, xs, rfl, ha, hi, hk⟩
    · exact (hn a xs rfl (s _ _ ha)).elim
  · rcases hd with ⟨b, ys, rfl, hb, hi, _⟩ | ⟨_, _, e⟩
    · rcases hk with ⟨zs, e⟩ | ⟨zs, e⟩ | ⟨zs, e⟩
      · have := (s _ _ e).symm.trans hb
        cases this
      · exact (hn b zs rfl e).elim
      · have := (s _ _ e).symm.trans hb
        cases this
    · exact .inr ⟨hn, hk, e⟩
end
set_option maxRecDepth 100000
set_option maxHeartbeats 4000000
open PySem PySem.Spec L2


theorem sc_law : FnScope ["_law_script", "_law_hand_here", "_law_turn", "_law_many", "_law_hung", "_law_moves_here", "_law_last", "_law_made", "_law_due", "_law_number", "_law_ups", "_law_lists", "_law_again", "_law_told", "_law_block"] ["_law_script"] (defScope s_law) := ⟨rfl, rfl, rfl, by decide +kernel, rfl, by decide +kernel, by decide +kernel⟩
section
variable {P : Program} {w : World} {K : PySem.W.Frag} {mg : Str → Option Value} {base : Heap} {Z : Ad}

theorem TellsDue.same {H H' : Hp} {v : V} {d : Due} (s : Same H H') (h : TellsDue H v d) : TellsDue H' v d := by
  cases d with
  | ring k =>
    obtain ⟨a, rfl, ha⟩ := h
    exact ⟨a, rfl, s _ _ ha⟩
  | _ => exact h
theorem DueV.det {H : Hp} {x : V} {d e : Due} (h : DueV H x d) (h' : DueV H x e) : d = e := by
  rcases h with ⟨a, xs, rfl, ha, hi, _⟩ | ⟨hn, _, rfl⟩
  · rcases h' with ⟨b, ys, e, hb, hj, _⟩ | ⟨hn, _, _⟩
    · cases e
      have := ha.symm.trans hb
      cases this
      exact hi.det hj
    · exact (hn a xs rfl ha).elim
  · rcases h' with ⟨b, ys, rfl, hb, _, _⟩ | ⟨_, _, rfl⟩
    · exact (hn b ys rfl hb).elim
    · rfl
theorem tree_ok {hs : List Nat} (t : IsTree hs) : DueIs (nats hs) .ok := by
  refine .ok t rfl fun j y hy => ?_
  obtain ⟨x, hx, rfl⟩ : ∃ x : Nat, hs[j]? = some x ∧ y = .int x := by
    unfold nats at hy
    rw [List.getElem?_map] at hy
    cases e : hs[j]? with
    | none =>
      rw [e] at hy
      cases hy
    | some x =>
      rw [e] at hy
      exact ⟨x, rfl, (Option.some.inj hy).symm⟩
  have hle := t.le x (List.mem_of_getElem? hx)
  have hj := (List.getElem?_eq_some_iff.mp hx).1
  rw [nats_length]
  rintro (h | h)
  · rw [numT (by omega)] at h
    have := of_decide_eq_false h
    omega
  · injection h with h
    have e : x = j + 1 := by omega
    subst e
    have u : up hs (j + 1) = j + 1 := up_at (by omega) (by rw [Nat.add_sub_cancel]; exact hx)
    have un : ∀ n, upN hs n (j + 1) = j + 1 := fun n => by
      induction n with
      | zero => rfl
      | succ n ih =>
        show upN hs n (up hs (j + 1)) = j + 1
        rw [u]
        exact ih
    have := t.comes (j + 1) (by omega)
    rw [un] at this
    omega
theorem make_tree {H : Hp} {Q : VK} {a : Addr} {hs : List Nat} (t : IsTree hs) (ha : H a = some (.tup (nats hs))) (q : ∀ m H', H m = none → Same H H' → TreeAt Z H' m hs → Q (.ref m) H') :
    ∀ x dx, H x = none → H dx = none → dx ≠ x → spTree Z (.ref x :: ([.ref a] ++ [])) (upd (upd H dx (.own x)) x (.ins Z.a_Tree dx [])) (fun v H2 => v = .non ∧ Q (.ref x) H2) (fun _ _ _ => False) := by
  intro m dm hm hdm ne
  have hm2 : upd H dm (.own m) m = none := by
    rw [upd_ne (Ne.symm ne)]
    exact hm
  have s0 : Same H (upd (upd H dm (.own m)) m (.ins Z.a_Tree dm [])) := same_new (same_new (Same.refl H) hdm) hm2
  have hk : ∀ y ∈ nats hs, Kn H y := fun y hy => by
    obtain ⟨n, _, rfl⟩ := List.mem_map.mp hy
    exact True.intro
  have hx : Thing H (.ref a) := .inl ⟨a, _, rfl, ha, hk⟩
  have due : DueV H (.ref a) .ok := .inl ⟨a, _, rfl, ha, tree_ok t, hk⟩
  refine ⟨m, dm, .ref a, rfl, upd_same, hx.same s0, fun H' hd b1 hm1 => ⟨rfl, ?_⟩, fun d e v H' nd hd ht s1 he => nd ((hx.back s0 hd).det due)⟩
  have s1 : Same H H' := fun b o e => b1 _ _ (ne_of_none e hm) (s0 _ _ e)
  exact q m H' hm s1 ⟨dm, a, hm1, s1 _ _ ha⟩
theorem PoolAt.lst {H : Hp} {p : Addr} {F : Addr → Prop} (h : PoolAt H p F) : ∃ xs, H p = some (.lst xs) := by
  obtain ⟨⟨g, z, gs, ss, c, n, hp, _⟩, _⟩ := h
  exact ⟨_, hp⟩
theorem Kn.pool {H H' : Hp} {p : Addr} {F : Addr → Prop} {v : V} (hp : PoolAt H' p F) (b : But p H H') (k : Kn H v) : Kn H' v := by
  by_cases e : v = .ref p
  · subst e
    exact .inl hp.lst
  · exact k.but b e
theorem Thing.pool {H H' : Hp} {p : Addr} {F F' : Addr → Prop} {v : V} (hp : PoolAt H p F) (hp' : PoolAt H' p F') (b : But p H H') (k : Thing H v) : Thing H' v := by
  obtain ⟨zs, ep⟩ := hp.lst
  obtain ⟨ws, ep'⟩ := hp'.lst
  rcases k with ⟨a, xs, rfl, ha, hk⟩ | ⟨hn, hk⟩
  · refine .inl ⟨a, xs, rfl, b _ _ (fun e => ?_) ha, fun y hy => (hk y hy).pool hp' b⟩
    subst e
    rw [ha] at ep
    cases ep
  · refine .inr ⟨fun a xs e ha => ?_, hk.pool hp' b⟩
    subst e
    by_cases e : a = p
    · subst e
      rw [ha] at ep'
      cases ep'
    · rcases hk with ⟨ys, h⟩ | ⟨ys, h⟩ | ⟨ys, h⟩
      · have := (b _ _ e h).symm.trans ha
        cases this
      · exact hn a ys rfl h
      · have := (b _ _ e h).symm.trans ha
        cases this
def spLaw (K : PySem.W.Frag) : Sp := fun vs H Q _ => ∃ (a : Addr) (ns : List Int), vs = [.ref a] ∧ SqL K H a (ns.map V.int) ∧ ns.length ≤ 63 ∧ ∀ H', Q (.bl true) H'
end
set_option maxRecDepth 100000
set_option maxHeartbeats 1000000
open PySem PySem.Spec L2


theorem sc_is_block : FnScope ["tree", "thing"] ["tree", "thing"] (defScope s_is_block) := ⟨rfl, rfl, rfl, by decide +kernel, rfl, by decide +kernel, by decide +kernel⟩
theorem sc_is_place : FnScope ["tree", "thing"] ["tree", "thing"] (defScope s_is_place) := ⟨rfl, rfl, rfl, by decide +kernel, rfl, by decide +kernel, by decide +kernel⟩
theorem sc_place_of : FnScope ["tree", "block"] ["tree", "block"] (defScope s_place_of) := ⟨rfl, rfl, rfl, by decide +kernel, rfl, by decide +kernel, by decide +kernel⟩
theorem sc_parents : FnScope ["tree", "block", "above"] ["tree", "block"] (defScope s_parents) := ⟨rfl, rfl, rfl, by decide +kernel, rfl, by decide +kernel, by decide +kernel⟩
section
variable {P : Program} {w : World} {K : PySem.W.Frag} {mg : Str → Option Value} {base : Heap} {Z : Ad}
def spIsB (Z : Ad) (lo : Int) : Sp := fun vs H Q _ => ∃ (x : Addr) (hs : List Nat) (v : V), vs = [.ref x, v] ∧ TreeAt Z H x hs ∧ Kn H v ∧ Q (.bl (numV lo hs.length v)) H
theorem ok_isBlock {f : Addr} {fd : FuncData} (F : Fun K "is_block" "is_block" s_is_block f fd) (B : Bl Z mg) (T : Cls K Z.a_Tree) (N : NoAttr K Z.a_Tree "hung") {f_is_within : Addr} {fd_is_within : FuncData} (C_is_within : Cal K mg "is_within" f_is_within fd_is_within ["least", "most", "thing"]) (G_is_within : FnOk P w K mg base CX0 1 f_is_within fd_is_within ["least", "most", "thing"] spWithin) : FnOk P w K mg base CX0 2 f fd ["tree", "thing"] (spIsB Z 1) := by
  refine F.ok sc_is_block (fun vs H Q E h => ?_) (fun cdv A outer s H vs Q E hr h => ?_)
  · obtain ⟨x, hs, v, rfl, _⟩ := h
    rfl
  · obtain ⟨x, hs, v, rfl, ht, hk, q⟩ := h
    refine ⟨_, (pss_one (ps_ret (pe_call G_is_within (hr.mono (by first | decide | omega)) (by rfl) C_is_within.g C_is_within.k C_is_within.b .nil pass0 (pa_cons pe_int (pa_cons (pe_callB (call_lenK (K := K) rfl) (by rfl) B.b_len PySem.boot_len (pa_cons (pe_fldK (K := K) rfl (pv 0) rfl) pa_nil)) (pa_cons (pv 1) pa_nil)))))), ?_⟩
    walk_at "h0"
    obtain ⟨dx, t, h1, h2⟩ := ht
    have h3 : SqT K H t (nats hs) := .of h2
    refine ⟨x, _, dx, _, _, rfl, h1, T, N, rfl, ?_⟩
    walk_at "hs"
    rw [nats_length]
    exact ⟨v, 1, _, rfl, hk, q⟩
theorem ok_isPlace {f : Addr} {fd : FuncData} (F : Fun K "is_place" "is_place" s_is_place f fd) (B : Bl Z mg) (T : Cls K Z.a_Tree) (N : NoAttr K Z.a_Tree "hung") {f_is_within : Addr} {fd_is_within : FuncData} (C_is_within : Cal K mg "is_within" f_is_within fd_is_within ["least", "most", "thing"]) (G_is_within : FnOk P w K mg base CX0 1 f_is_within fd_is_within ["least", "most", "thing"] spWithin) : FnOk P w K mg base CX0 2 f fd ["tree", "thing"] (spIsB Z 0) := by
  refine F.ok sc_is_place (fun vs H Q E h => ?_) (fun cdv A outer s H vs Q E hr h => ?_)
  · obtain ⟨x, hs, v, rfl, _⟩ := h
    rfl
  · obtain ⟨x, hs, v, rfl, ht, hk, q⟩ := h
    refine ⟨_, (pss_one (ps_ret (pe_call G_is_within (hr.mono (by first | decide | omega)) (by rfl) C_is_within.g C_is_within.k C_is_within.b .nil pass0 (pa_cons pe_int (pa_cons (pe_callB (call_lenK (K := K) rfl) (by rfl) B.b_len PySem.boot_len (pa_cons (pe_fldK (K := K) rfl (pv 0) rfl) pa_nil)) (pa_cons (pv 1) pa_nil)))))), ?_⟩
    walk_at "h0"
    obtain ⟨dx, t, h1, h2⟩ := ht
    have h3 : SqT K H t (nats hs) := .of h2
    refine ⟨x, _, dx, _, _, rfl, h1, T, N, rfl, ?_⟩
    walk_at "hs"
    rw [nats_length]
    exact ⟨v, 0, _, rfl, hk, q⟩
theorem num_nat {lo : Int} {n k : Nat} (h1 : lo ≤ k) (h2 : k ≤ n) : numV lo n (.int k) = true := by
  rw [numT h1]
  exact decide_eq_true (by omega)
def spPlace (Z : Ad) : Sp := fun vs H Q _ => ∃ (x : Addr) (hs : List Nat) (k : Nat), vs = [.ref x, .int k] ∧ TreeAt Z H x hs ∧ 1 ≤ k ∧ k ≤ hs.length ∧ Q (.int (up hs k : Nat)) H
theorem ok_place {f : Addr} {fd : FuncData} (F : Fun K "place_of" "place_of" s_place_of f fd) (B : Bl Z mg) (T : Cls K Z.a_Tree) (N : NoAttr K Z.a_Tree "hung") {f_is_block : Addr} {fd_is_block : FuncData} (C_is_block : Cal K mg "is_block" f_is_block fd_is_block ["tree", "thing"]) (G_is_block : FnOk P w K mg base CX0 2 f_is_block fd_is_block ["tree", "thing"] (spIsB Z 1)) : FnOk P w K mg base CX0 3 f fd ["tree", "block"] (spPlace Z) := by
  refine F.ok sc_place_of (fun vs H Q E h => ?_) (fun cdv A outer s H vs Q E hr h => ?_)
  · obtain ⟨x, hs, k, rfl, _⟩ := h
    rfl
  · obtain ⟨x, hs, k, rfl, ht, h1, h2, q⟩ := h
    refine ⟨_, (pss_cons (ps_if (pt_not (pt_val (pe_call G_is_block (hr.mono (by first | decide | omega)) (by rfl) C_is_block.g C_is_block.k C_is_block.b .nil pass0 (pa_cons (pv 0) (pa_cons (pv 1) pa_nil))))) (pss_one ps_never) pss_nil)
 (pss_one (ps_ret (pe_ix (ix_tupK (K := K) rfl) (pe_fldK (K := K) rfl (pv 0) rfl) (pe_op op_sub (pv 1) pe_int) (fun _ _ => rfl))))), ?_⟩
    walk_at "h0"
    refine ⟨x, hs, _, rfl, ht, True.intro, ?_⟩
    rw [num_nat (by omega) h2]
    have hat : atI (nats hs) ((k : Int) - 1) = some (.int (up hs k : Nat)) := by
      rw [show (k : Int) - 1 = ((k - 1 : Nat) : Int) by omega]
      exact nats_at (up_get h1 h2)
    walk_at "hs"
    obtain ⟨dx, t, e1, e2⟩ := ht
    have e3 : SqT K H t (nats hs) := .of e2
    refine ⟨x, _, dx, _, _, rfl, e1, T, N, rfl, ?_⟩
    walk_at "hs"
    exact q
def spParents (Z : Ad) : Sp := fun vs H Q _ => ∃ (x : Addr) (hs : List Nat) (k : Nat), vs = [.ref x, .int k] ∧ TreeAt Z H x hs ∧ IsTree hs ∧ 1 ≤ k ∧ k ≤ hs.length ∧ ∀ D H', Same H H' → H D = none → H' D = some (.tup (nats (way hs k))) → Q (.ref D) H'
theorem ok_parents {f : Addr} {fd : FuncData} (F : Fun K "parents" "parents" s_parents f fd) (B : Bl Z mg) {f_place_of : Addr} {fd_place_of : FuncData} (C_place_of : Cal K mg "place_of" f_place_of fd_place_of ["tree", "block"]) (G_place_of : FnOk P w K mg base CX0 3 f_place_of fd_place_of ["tree", "block"] (spPlace Z)) : FnOk P w K mg base CX0 4 f fd ["tree", "block"] (spParents Z) := by
  refine F.ok sc_parents (fun vs H Q E h => ?_) (fun cdv A outer s H vs Q E hr h => ?_)
  · obtain ⟨x, hs, k, rfl, _⟩ := h
    rfl
  · obtain ⟨x, hs, k, rfl, ht, it, h1, h2, q⟩ := h
    refine ⟨_, (pss_cons (ps_set (i := 2) sc_parents.nd rfl (Or.inl rfl) (pe_lst (pa_cons (pe_call G_place_of (hr.mono (by first | decide | omega)) (by rfl) C_place_of.g C_place_of.k C_place_of.b .nil pass0 (pa_cons (pv 0) (pa_cons (pv 1) pa_nil))) pa_nil)))
 (pss_cons (ps_while PassesOwn.never (pt_cmpR op_ne (pe_ix (ix_listK (K := K) rfl) (pv 2) (pe_un un_neg pe_int) (fun _ _ => rfl)) pe_int (nomark _)) (pss_one (ps_expr (pe_bmK (K := K) rfl PySem.F.plainAttrs_list PySem.F.slot_list_append PySem.F.type_list_append mt_append (pv 2) (pa_cons (pe_call G_place_of (hr.mono (by first | decide | omega)) (by rfl) C_place_of.g C_place_of.k C_place_of.b .nil pass0 (pa_cons (pv 0) (pa_cons (pe_ix (ix_listK (K := K) rfl) (pv 2) (pe_un un_neg pe_int) (fun _ _ => rfl)) pa_nil))) pa_nil)))))
 (pss_one (ps_ret (pe_callTy (call_tplK (K := K) rfl) (by rfl) B.b_tuple (by decide +kernel) (pa_cons (pv 2) pa_nil)))))), ?_⟩
    walk_at "h0"
    refine ⟨x, hs, k, rfl, ht, h1, h2, ?_⟩
    walk_at "hs"
    intro L hL
    walk_at "hs"
    refine ⟨fun m σ' H' => ∃ n : Nat, n + m = hs.length ∧ 1 ≤ n ∧ σ' = [some (.ref x), some (.int k), some (.ref L)] ∧ Same H H' ∧ (∀ j, j < n → upN hs j k ≠ 0) ∧ H' L = some (.lst (nats ((List.range n).map fun i => upN hs (i + 1) k))), ⟨hs.length - 1, 1, by omega, by omega, rfl, by walk_at "sm", fun j hj => ?_, upd_same⟩, ?_⟩
    · have e : j = 0 := by omega
      subst e
      show k ≠ 0
      omega
    · rintro m σ' H' ⟨n, hn, n1, rfl, s1, hz, eL⟩
      obtain ⟨n, rfl⟩ : ∃ n', n = n' + 1 := ⟨n - 1, by omega⟩
      have el : nats ((List.range (n + 1)).map fun i => upN hs (i + 1) k) = nats ((List.range n).map fun i => upN hs (i + 1) k) ++ [.int (upN hs (n + 1) k : Nat)] := by
        rw [List.range_succ, List.map_append, nats_append]
        rfl
      have hL1 : SqL K H' L (nats ((List.range (n + 1)).map fun i => upN hs (i + 1) k)) := .of eL
      have hat : atI (nats ((List.range (n + 1)).map fun i => upN hs (i + 1) k)) (-1) = some (.int (upN hs (n + 1) k : Nat)) := by
        rw [el]
        exact atI_last _ _
      walk_at "hs"
      refine x_isd (fun c => ?_) (fun c => ?_)
      · have c' : upN hs (n + 1) k ≠ 0 := fun e => c (by rw [e]; rfl)
        have hlt : n + 1 < hs.length := by
          refine Nat.lt_of_not_le fun hle => c' ?_
          exact upN_more (it.comes k h2) hle
        have hup := upN_le it.le (n + 1) k h2
        refine ⟨fun σ' H2 => σ' = [some (.ref x), some (.int k), some (.ref L)] ∧ Same H H2 ∧ H2 L = some (.lst (nats ((List.range (n + 1 + 1)).map fun i => upN hs (i + 1) k))), fun σ' H2 hN => ⟨m - 1, by omega, n + 1 + 1, by omega, by omega, hN.1, hN.2.1, fun j hj => ?_, hN.2.2⟩, ?_⟩
        · by_cases e : j = n + 1
          · rw [e]
            exact c'
          · exact hz j (by omega)
        · walk_at "hs"
          refine ⟨x, hs, upN hs (n + 1) k, rfl, ht.same s1, by omega, hup, ?_⟩
          walk_at "hs"
          refine x_append eL (by rw [nats_length, List.length_map, List.length_range]; exact szLt (by have := it.most; omega)) ?_
          walk_at "hs"
          refine ⟨rfl, by walk_at "sm", ?_⟩
          rw [upd_same, List.range_succ (n := n + 1), List.map_append, nats_append, List.map_cons, List.map_nil, upN_succ hs (n + 1)]
          rfl
      · have c' : upN hs (n + 1) k = 0 := by
          refine Decidable.byContradiction fun e => c fun e' => e ?_
          omega
        walk_at "hs"
        intro D hD
        refine q D _ (by walk_at "sm") (s1.free hD) ?_
        rw [upd_same, way, wayN_eq hs hs.length k (n + 1) hz c' (by omega)]
end
set_option maxRecDepth 100000
set_option maxHeartbeats 1000000
open PySem PySem.Spec L2


theorem sc_beneath : FnScope ["tree", "place", "blocks", "block"] ["tree", "place"] (defScope s_beneath) := ⟨rfl, rfl, rfl, by decide +kernel, rfl, by decide +kernel, by decide +kernel⟩
section
variable {P : Program} {w : World} {K : PySem.W.Frag} {mg : Str → Option Value} {base : Heap} {Z : Ad}
def spBeneath (Z : Ad) : Sp := fun vs H Q _ => ∃ (x : Addr) (hs : List Nat) (p : Nat), vs = [.ref x, .int p] ∧ TreeAt Z H x hs ∧ IsTree hs ∧ p ≤ hs.length ∧ ∀ D H', Same H H' → H D = none → H' D = some (.tup (nats (below hs p))) → Q (.ref D) H'
theorem ok_beneath {f : Addr} {fd : FuncData} (F : Fun K "beneath" "beneath" s_beneath f fd) (B : Bl Z mg) (T : Cls K Z.a_Tree) (N : NoAttr K Z.a_Tree "hung") {f_is_place : Addr} {fd_is_place : FuncData} (C_is_place : Cal K mg "is_place" f_is_place fd_is_place ["tree", "thing"]) (G_is_place : FnOk P w K mg base CX0 2 f_is_place fd_is_place ["tree", "thing"] (spIsB Z 0))
    {f_parents : Addr} {fd_parents : FuncData} (C_parents : Cal K mg "parents" f_parents fd_parents ["tree", "block"]) (G_parents : FnOk P w K mg base CX0 4 f_parents fd_parents ["tree", "block"] (spParents Z)) : FnOk P w K mg base CX0 5 f fd ["tree", "place"] (spBeneath Z) := by
  refine F.ok sc_beneath (fun vs H Q E h => ?_) (fun cdv A outer s H vs Q E hr h => ?_)
  · obtain ⟨x, hs, p, rfl, _⟩ := h
    rfl
  · obtain ⟨x, hs, p, rfl, ht, it, hp, q⟩ := h
    refine ⟨_, (pss_cons (ps_if (pt_not (pt_val (pe_call G_is_place (hr.mono (by first | decide | omega)) (by rfl) C_is_place.g C_is_place.k C_is_place.b .nil pass0 (pa_cons (pv 0) (pa_cons (pv 1) pa_nil))))) (pss_one ps_never) pss_nil)
 (pss_cons (ps_set (i := 2) sc_beneath.nd rfl (Or.inl rfl) (pe_callTy call_rng2 (by rfl) B.b_range (by decide +kernel) (pa_cons pe_int (pa_cons (pe_op op_add (pe_callB (call_lenK (K := K) rfl) (by rfl) B.b_len PySem.boot_len (pa_cons (pe_fldK (K := K) rfl (pv 0) rfl) pa_nil)) pe_int) pa_nil))))
 (pss_one (ps_ret (pe_callTy (call_tplK (K := K) rfl) (by rfl) B.b_tuple (by decide +kernel) (pa_cons (pe_lc (own := [("block", 3)]) rfl sc_beneath.nd (pi_rngV (pv 2)) (blkOk_by (N := ["tree", "place", "blocks", "block"]) (sc := defScope s_beneath) (by decide +kernel)) (fun _ _ _ _ _ => (pg_name (i := 3) sc_beneath.nd rfl (Or.inl rfl))) (fun _ _ _ _ _ => (pts_one (pt_cmpR (op_inK (K := K) rfl) (pv 1) (pe_call G_parents (hr.mono (by first | decide | omega)) (by rfl) C_parents.g C_parents.k C_parents.b .nil pass0 (pa_cons (pv 0) (pa_cons (pv 3) pa_nil))) (by rfl)))) (fun _ _ _ _ _ => (pv 3))) pa_nil)))))), ?_⟩
    walk_at "h0"
    refine ⟨x, hs, _, rfl, ht, True.intro, ?_⟩
    rw [num_nat (by omega) hp]
    walk_at "hs"
    obtain ⟨dx, t, h1, h2⟩ := id ht
    have h3 : SqT K H t (nats hs) := .of h2
    refine ⟨x, _, dx, _, _, rfl, h1, T, N, rfl, ?_⟩
    walk_at "hs"
    rw [nats_length]
    intro R hR
    walk_at "hs"
    have := it.most
    refine ⟨R, _, _, rfl, upd_same, ⟨by omega, by omega, by omega, by omega⟩, fun D hD => ?_⟩
    have nD : H D = none := Same.free (same_new (Same.refl _) hR) hD
    have en : Int.toNat ((hs.length : Int) + 1 - 1) = hs.length := by omega
    refine lc_range (lo := 1) (n := Int.toNat ((hs.length : Int) + 1 - 1)) (fun i H' => Same H H' ∧ H' D = some (.lst (nats ((List.range' 1 i).filter fun b => decide (p ∈ way hs b)))))
      ⟨same_mut (same_new (Same.refl _) hR) nD, upd_same⟩ ?_ ?_
    · rintro i H' hi ⟨s1, eD⟩
      walk_at "hs"
      refine ⟨rfl, ?_⟩
      walk_at "hs"
      have ec : ((1 : Int) + (i : Int)) = ((i + 1 : Nat) : Int) := by omega
      refine ⟨x, hs, i + 1, by rw [ec]; rfl, ht.same s1, it, by omega, by omega, fun U H2 s2 nU eU => ?_⟩
      have eD2 := s2 _ _ eD
      refine x_inNT (.of eU) ?_
      walk_at "hs"
      refine x_isd (fun c => ?_) (fun c => ?_)
      · walk_at "hs"
        refine ⟨_, eD2, by rw [nats_length]; exact szLt (by have := filter_len (fun b => decide (p ∈ way hs b)) i; omega), same_mut (s1.trans s2) nD, ?_⟩
        rw [upd_same, filter_snoc, if_pos (decide_eq_true c), nats_append, ec]
        rfl
      · refine ⟨s1.trans s2, ?_⟩
        rw [eD2, filter_snoc, if_neg (by rw [decide_eq_true_eq]; exact c), List.append_nil]
    · rintro H' ⟨s1, eD⟩
      rw [en] at eD
      have hL : SqL K H' D _ := .of eD
      walk_at "hs"
      intro U hU
      exact q U _ (by walk_at "sm") (s1.free hU) upd_same
end
set_option maxRecDepth 100000
set_option maxHeartbeats 2000000
open PySem PySem.Spec L2


theorem sc_moved : FnScope ["tree", "block", "place"] ["tree", "block", "place"] (defScope s_moved) := ⟨rfl, rfl, rfl, by decide +kernel, rfl, by decide +kernel, by decide +kernel⟩
section
variable {P : Program} {w : World} {K : PySem.W.Frag} {mg : Str → Option Value} {base : Heap} {Z : Ad}
end
set_option maxRecDepth 100000
set_option maxHeartbeats 1000000
open PySem PySem.Spec L2


theorem sc_is_pair : FnScope ["thing"] ["thing"] (defScope s_is_pair) := ⟨rfl, rfl, rfl, by decide +kernel, rfl, by decide +kernel, by decide +kernel⟩
def tupOf (H : Hp) : V → Option (List V)
  | .ref a => match H a with
    | some (.tup xs) => some xs
    | _ => none
  | _ => none
def lenIs (H : Hp) (m : Int) (x : V) : Bool := match tupOf H x with
  | some xs => decide ((xs.length : Int) = m)
  | none => false
def Kv (Z : Ad) (H : Hp) : V → Prop
  | .non => True
  | .bl _ => True
  | .int _ => True
  | .str _ => True
  | .ref a => (∃ xs, H a = some (.lst xs)) ∨ (∃ xs, H a = some (.tup xs)) ∨ (∃ kvs : List (Key × V), H a = some (.dK kvs)) ∨ ∃ dx fs, H a = some (.ins Z.a_Tree dx fs)
  | _ => False
def KvD (Z : Ad) (H : Hp) : Nat → V → Prop
  | 0, v => Kv Z H v
  | n + 1, v => Kv Z H v ∧ ∀ xs, tupOf H v = some xs → ∀ x ∈ xs, KvD Z H n x
theorem KvD.kv {Z : Ad} {H : Hp} {n : Nat} {v : V} (h : KvD Z H n v) : Kv Z H v := by
  cases n with
  | zero => exact h
  | succ n => exact h.1
theorem Kv.some {Z : Ad} {H : Hp} {a : Addr} (h : Kv Z H (.ref a)) : ∃ o, H a = some o := by
  rcases h with ⟨x, e⟩ | ⟨x, e⟩ | ⟨x, e⟩ | ⟨x, y, e⟩ <;> exact ⟨_, e⟩
theorem tupOf_same {Z : Ad} {H H' : Hp} {v : V} (s : Same H H') (k : Kv Z H v) : tupOf H' v = tupOf H v := by
  cases v with
  | ref a =>
    obtain ⟨o, e⟩ := k.some
    show (match H' a with | some (.tup xs) => some xs | _ => none) = (match H a with | some (.tup xs) => some xs | _ => none)
    rw [s _ _ e, e]
  | _ => rfl
theorem Kv.same {Z : Ad} {H H' : Hp} {v : V} (s : Same H H') (k : Kv Z H v) : Kv Z H' v := by
  cases v with
  | ref a =>
    rcases k with ⟨x, e⟩ | ⟨x, e⟩ | ⟨x, e⟩ | ⟨x, y, e⟩
    · exact .inl ⟨x, s _ _ e⟩
    · exact .inr (.inl ⟨x, s _ _ e⟩)
    · exact .inr (.inr (.inl ⟨x, s _ _ e⟩))
    · exact .inr (.inr (.inr ⟨x, y, s _ _ e⟩))
  | _ => exact k
theorem KvD.same {Z : Ad} {H H' : Hp} (s : Same H H') : ∀ {n : Nat} {v : V}, KvD Z H n v → KvD Z H' n v
  | 0, _, h => Kv.same s h
  | n + 1, v, h => ⟨h.1.same s, fun xs e x hx => by
    rw [tupOf_same s h.1] at e
    exact (h.2 xs e x hx).same s⟩
structure InsK (K : PySem.W.Frag) (Z : Ad) : Prop where
  i : IsC K Z.a_Tree
  k : ∀ T : String, T = "int" ∨ T = "bool" ∨ T = "tuple" ∨ T = "list" → PySem.W.kitOne K (.ref Z.a_Tree) (.type T) = some false
section
variable {P : Program} {w : World} {K : PySem.W.Frag} {mg : Str → Option Value} {base : Heap} {Z : Ad}
theorem isi_insTy {H : Hp} {Q : VK} {a C dx : Addr} {fs : List (Str × V)} {T : String} {b : Bool} (c : IsC K C) (k : PySem.W.kitOne K (.ref C) (.type T) = some b) (h : H a = some (.ins C dx fs)) (q : Q (.bl b) H) : rIsi K [.ref a, .ty T] H Q := ⟨.ref a, .ty T, .ref C, .type T, b, rfl, .ty _, .base (.ins h c.cl c.ha c.hn c.ht c.hm), k, q⟩
theorem kv_tuple {H : Hp} {Q : VK} {x : V} (I : InsK K Z) (k : Kv Z H x) (q : Q (.bl (tupOf H x).isSome) H) : rIsi K [x, .ty "tuple"] H Q := by
  cases x with
  | non => exact isi_non_tuple q
  | bl b => exact isi_bl_tuple q
  | int b => exact isi_int_tuple q
  | str b => exact isi_str_tuple q
  | ref a =>
    have e : tupOf H (.ref a) = match H a with | some (.tup xs) => some xs | _ => none := rfl
    rcases k with ⟨xs, h⟩ | ⟨xs, h⟩ | ⟨xs, h⟩ | ⟨dx, fs, h⟩
    · rw [e, h] at q
      exact isi_lst_tuple h q
    · rw [e, h] at q
      exact isi_tup_tuple h q
    · rw [e, h] at q
      exact isi_dK_tuple h q
    · rw [e, h] at q
      exact isi_insTy I.i (I.k _ (.inr (.inr (.inl rfl)))) h q
  | _ => exact k.elim
def isIntB : V → Bool
  | .int _ => true
  | .bl _ => true
  | _ => false
theorem kv_int {H : Hp} {Q : VK} {x : V} (I : InsK K Z) (k : Kv Z H x) (q : Q (.bl (isIntB x)) H) : rIsi K [x, .ty "int"] H Q := by
  cases x with
  | non => exact isi_non_int q
  | bl b => exact isi_bl_int q
  | int b => exact isi_int_int q
  | str b => exact isi_str_int q
  | ref a =>
    rcases k with ⟨xs, h⟩ | ⟨xs, h⟩ | ⟨xs, h⟩ | ⟨dx, fs, h⟩
    · exact isi_lst_int h q
    · exact isi_tup_int h q
    · exact isi_dK_int h q
    · exact isi_insTy I.i (I.k _ (.inl rfl)) h q
  | _ => exact k.elim
theorem tupOf_ref {H : Hp} {x : V} {xs : List V} (h : tupOf H x = some xs) : ∃ a, x = .ref a ∧ H a = some (.tup xs) := by
  cases x with
  | ref a =>
    have e : (match H a with | some (.tup xs) => some xs | _ => none) = some xs := h
    cases ha : H a with
    | none => rw [ha] at e; cases e
    | some o =>
      rw [ha] at e
      cases o with
      | tup ys =>
        cases e
        exact ⟨a, rfl, ha⟩
      | _ => cases e
  | _ => cases h
def spWithinK (Z : Ad) : Sp := fun vs H Q _ => ∃ (x : V) (lo hi : Int), vs = [.int lo, .int hi, x] ∧ Kv Z H x ∧ Q (.bl (numV lo hi x)) H
theorem ok_withinK {f : Addr} {fd : FuncData} (F : Fun K "is_within" "is_within" s_is_within f fd) (B : Bl Z mg) (I : InsK K Z) : FnOk P w K mg base CX0 1 f fd ["least", "most", "thing"] (spWithinK Z) := by
  refine F.ok sc_is_within (fun vs H Q E h => ?_) (fun cdv A outer s H vs Q E hr h => ?_)
  · obtain ⟨x, lo, hi, rfl, _⟩ := h
    rfl
  · obtain ⟨x, lo, hi, rfl, hk, q⟩ := h
    refine ⟨_, (pss_cons (ps_if (PW.pt (pw_or (pt_not (pt_val (pe_callB (call_isiK' (K := K) rfl) (by rfl) B.b_isinstance (by decide +kernel) (pa_cons (pv 2) (pa_cons (pe_bltn (v := .ty "int") (by rfl) B.b_int (by decide +kernel) rfl) pa_nil))))) (pw_or1 (pt_val (pe_callB (call_isiK' (K := K) rfl) (by rfl) B.b_isinstance (by decide +kernel) (pa_cons (pv 2) (pa_cons (pe_bltn (v := .ty "bool") (by rfl) B.b_bool (by decide +kernel) rfl) pa_nil))))))) (pss_one (ps_ret pe_bl)) pss_nil)
 (pss_one (ps_ret (pe_chain op_le op_le (pv 0) (pv 2) (pv 1))))), ?_⟩
    walk_at "h0"
    refine kv_int I hk ?_
    cases x with
    | bl b =>
      dsimp only [isIntB]
      walk_at "hs"
      exact q
    | int i =>
      dsimp only [isIntB]
      walk_at "hs"
      refine x_isd (fun c => ?_) (fun c => ?_)
      · walk_at "hs"
        have e : numV lo hi (.int i) = decide (i ≤ hi) := numT c
        rw [← e]
        exact q
      · have e : numV lo hi (.int i) = false := numF c
        rw [e] at q
        exact q
    | non =>
      dsimp only [isIntB]
      walk_at "hs"
      exact q
    | str s =>
      dsimp only [isIntB]
      walk_at "hs"
      exact q
    | ref a =>
      dsimp only [isIntB]
      walk_at "hs"
      exact q
    | _ => exact hk.elim
end
def LsB (H H' : Hp) : Prop := ∀ a o, H a = some o → H' a = some o ∨ ∃ xs ys, o = .lst xs ∧ H' a = some (.lst ys)
theorem LsB.mut {H : Hp} {p : Addr} {xs ys : List V} (h : H p = some (.lst xs)) : LsB H (upd H p (.lst ys)) := fun a o e => by
  by_cases z : a = p
  · subst z
    rw [h] at e
    exact .inr ⟨xs, ys, (Option.some.inj e).symm, upd_same⟩
  · exact .inl (by rw [upd_ne z]; exact e)
def tupO : HO → Option (List V)
  | .tup xs => some xs
  | _ => none
theorem tupOf_at {H : Hp} {a : Addr} {o : HO} (h : H a = some o) : tupOf H (.ref a) = tupO o := by
  show (match H a with | some (.tup xs) => some xs | _ => none) = _
  rw [h]
  cases o <;> rfl
theorem kvd_tupN {Z : Ad} {H : Hp} {a : Addr} {xs : List V} {n : Nat} (h : H a = some (.tup xs)) (k : ∀ x ∈ xs, KvD Z H n x) : KvD Z H (n + 1) (.ref a) :=
  ⟨.inr (.inl ⟨_, h⟩), fun ys e x hx => by
    rw [tupOf_at h] at e
    cases e
    exact k x hx⟩
theorem kvd_tup {Z : Ad} {H : Hp} {a : Addr} {xs : List V} (h : H a = some (.tup xs)) (k : ∀ x ∈ xs, ∀ n, KvD Z H n x) : ∀ n, KvD Z H n (.ref a)
  | 0 => .inr (.inl ⟨_, h⟩)
  | n + 1 => kvd_tupN h fun x hx => k x hx n
theorem kvd_sca {Z : Ad} {H : Hp} {v : V} (h : sca v = true) : ∀ n, KvD Z H n v := by
  have k : Kv Z H v := by
    cases v with
    | non => exact trivial
    | bl b => exact trivial
    | int i => exact trivial
    | str s => exact trivial
    | _ => cases h
  have t : tupOf H v = none := by
    cases v with
    | ref a => cases h
    | _ => rfl
  intro n
  cases n with
  | zero => exact k
  | succ n => exact ⟨k, fun xs e x hx => by rw [t] at e; cases e⟩
set_option maxRecDepth 100000
set_option maxHeartbeats 2000000
open PySem PySem.Spec L2


section
variable {P : Program} {w : World} {K : PySem.W.Frag} {mg : Str → Option Value} {base : Heap} {Z : Ad}
def spPairK (Z : Ad) : Sp := fun vs H Q _ => ∃ (x : V), vs = [x] ∧ Kv Z H x ∧ Q (.bl (lenIs H 2 x)) H
theorem ok_pairK {f : Addr} {fd : FuncData} (F : Fun K "is_pair" "is_pair" s_is_pair f fd) (B : Bl Z mg) (I : InsK K Z) : FnOk P w K mg base CX0 1 f fd ["thing"] (spPairK Z) := by
  refine F.ok sc_is_pair (fun vs H Q E h => ?_) (fun cdv A outer s H vs Q E hr h => ?_)
  · obtain ⟨x, rfl, _⟩ := h
    rfl
  · obtain ⟨x, rfl, hk, q⟩ := h
    refine ⟨_, (pss_one (ps_ret (pe_and (pe_callB (call_isiK' (K := K) rfl) (by rfl) B.b_isinstance (by decide +kernel) (pa_cons (pv 0) (pa_cons (pe_bltn (v := .ty "tuple") (by rfl) B.b_tuple (by decide +kernel) rfl) pa_nil))) (pe_one (pe_cmpR op_eq (pe_callB (call_lenK (K := K) rfl) (by rfl) B.b_len PySem.boot_len (pa_cons (pv 0) pa_nil)) pe_int (nomark _)))))), ?_⟩
    walk_at "h0"
    refine kv_tuple I hk ?_
    unfold lenIs at q
    cases e : tupOf H x with
    | none =>
      rw [e] at q
      dsimp only [Option.isSome_none]
      walk_at "hs"
      exact q
    | some xs =>
      rw [e] at q
      obtain ⟨a, rfl, ha⟩ := tupOf_ref e
      dsimp only [Option.isSome_some]
      walk_at "hs"
      exact q
def spIsBK (Z : Ad) (lo : Int) : Sp := fun vs H Q _ => ∃ (x : Addr) (hs : List Nat) (v : V), vs = [.ref x, v] ∧ TreeAt Z H x hs ∧ Kv Z H v ∧ Q (.bl (numV lo hs.length v)) H
theorem ok_isBlockK {f : Addr} {fd : FuncData} (F : Fun K "is_block" "is_block" s_is_block f fd) (B : Bl Z mg) (T : Cls K Z.a_Tree) (N : NoAttr K Z.a_Tree "hung") {f_is_within : Addr} {fd_is_within : FuncData} (C_is_within : Cal K mg "is_within" f_is_within fd_is_within ["least", "most", "thing"]) (G_is_within : FnOk P w K mg base CX0 1 f_is_within fd_is_within ["least", "most", "thing"] (spWithinK Z)) : FnOk P w K mg base CX0 2 f fd ["tree", "thing"] (spIsBK Z 1) := by
  refine F.ok sc_is_block (fun vs H Q E h => ?_) (fun cdv A outer s H vs Q E hr h => ?_)
  · obtain ⟨x, hs, v, rfl, _⟩ := h
    rfl
  · obtain ⟨x, hs, v, rfl, ht, hk, q⟩ := h
    refine ⟨_, (pss_one (ps_ret (pe_call G_is_within (hr.mono (by first | decide | omega)) (by rfl) C_is_within.g C_is_within.k C_is_within.b .nil pass0 (pa_cons pe_int (pa_cons (pe_callB (call_lenK (K := K) rfl) (by rfl) B.b_len PySem.boot_len (pa_cons (pe_fldK (K := K) rfl (pv 0) rfl) pa_nil)) (pa_cons (pv 1) pa_nil)))))), ?_⟩
    walk_at "h0"
    obtain ⟨dx, t, h1, h2⟩ := ht
    have h3 : SqT K H t (nats hs) := .of h2
    refine ⟨x, _, dx, _, _, rfl, h1, T, N, rfl, ?_⟩
    walk_at "hs"
    rw [nats_length]
    exact ⟨v, 1, _, rfl, hk, q⟩
theorem ok_isPlaceK {f : Addr} {fd : FuncData} (F : Fun K "is_place" "is_place" s_is_place f fd) (B : Bl Z mg) (T : Cls K Z.a_Tree) (N : NoAttr K Z.a_Tree "hung") {f_is_within : Addr} {fd_is_within : FuncData} (C_is_within : Cal K mg "is_within" f_is_within fd_is_within ["least", "most", "thing"]) (G_is_within : FnOk P w K mg base CX0 1 f_is_within fd_is_within ["least", "most", "thing"] (spWithinK Z)) : FnOk P w K mg base CX0 2 f fd ["tree", "thing"] (spIsBK Z 0) := by
  refine F.ok sc_is_place (fun vs H Q E h => ?_) (fun cdv A outer s H vs Q E hr h => ?_)
  · obtain ⟨x, hs, v, rfl, _⟩ := h
    rfl
  · obtain ⟨x, hs, v, rfl, ht, hk, q⟩ := h
    refine ⟨_, (pss_one (ps_ret (pe_call G_is_within (hr.mono (by first | decide | omega)) (by rfl) C_is_within.g C_is_within.k C_is_within.b .nil pass0 (pa_cons pe_int (pa_cons (pe_callB (call_lenK (K := K) rfl) (by rfl) B.b_len PySem.boot_len (pa_cons (pe_fldK (K := K) rfl (pv 0) rfl) pa_nil)) (pa_cons (pv 1) pa_nil)))))), ?_⟩
    walk_at "h0"
    obtain ⟨dx, t, h1, h2⟩ := ht
    have h3 : SqT K H t (nats hs) := .of h2
    refine ⟨x, _, dx, _, _, rfl, h1, T, N, rfl, ?_⟩
    walk_at "hs"
    rw [nats_length]
    exact ⟨v, 0, _, rfl, hk, q⟩
def okMv (hs : List Nat) : V → V → Option (Nat × Nat)
  | .int b, .int p => if 1 ≤ b ∧ b ≤ hs.length ∧ 0 ≤ p ∧ p ≤ hs.length ∧ p ≠ b ∧ b.toNat ∉ way hs p.toNat then some (b.toNat, p.toNat) else none
  | _, _ => none
theorem num_out {lo : Int} {n : Nat} {v : V} (h : numV lo n v = true) : ∃ z : Int, v = .int z ∧ lo ≤ z ∧ z ≤ n := by
  cases v with
  | int z =>
    have h : (decide (lo ≤ z) && decide (z ≤ n)) = true := h
    rw [Bool.and_eq_true, decide_eq_true_eq, decide_eq_true_eq] at h
    exact ⟨z, rfl, h.1, h.2⟩
  | _ => cases h
def spMovedK (Z : Ad) : Sp := fun vs H Q E => ∃ (x : Addr) (hs : List Nat) (b p : V), vs = [.ref x, b, p] ∧ TreeAt Z H x hs ∧ IsTree hs ∧ Kv Z H b ∧ Kv Z H p ∧
  (∀ c d, okMv hs b p = some (c, d) → ∀ m H', Same H H' → H m = none → TreeAt Z H' m (put hs c d) → Q (.ref m) H') ∧ (okMv hs b p = none → ∀ c H', c = Z.a_NoBlock ∨ c = Z.a_NoPlace ∨ c = Z.a_Beneath → Same H H' → E (.ref c) none H')
theorem ok_movedK {f fI fJ fL : Addr} {fd : FuncData} (F : Fun K "moved" "moved" s_moved f fd) (B : Bl Z mg) (T : Cls K Z.a_Tree) (N : NoAttr K Z.a_Tree "hung") (X_NoBlock : SupC P K Z.a_NoBlock fI) (X_NoPlace : SupC P K Z.a_NoPlace fJ) (X_Beneath : SupC P K Z.a_Beneath fL) {f_is_block : Addr} {fd_is_block : FuncData} (C_is_block : Cal K mg "is_block" f_is_block fd_is_block ["tree", "thing"]) (G_is_block : FnOk P w K mg base CX0 2 f_is_block fd_is_block ["tree", "thing"] (spIsBK Z 1))
    {f_is_place : Addr} {fd_is_place : FuncData} (C_is_place : Cal K mg "is_place" f_is_place fd_is_place ["tree", "thing"]) (G_is_place : FnOk P w K mg base CX0 2 f_is_place fd_is_place ["tree", "thing"] (spIsBK Z 0)) {f_beneath : Addr} {fd_beneath : FuncData} (C_beneath : Cal K mg "beneath" f_beneath fd_beneath ["tree", "place"]) (G_beneath : FnOk P w K mg base CX0 5 f_beneath fd_beneath ["tree", "place"] (spBeneath Z))
    {f_Tree___init__ : Addr} {fd_Tree___init__ : FuncData} (C_Tree___init__ : CalM K f_Tree___init__ fd_Tree___init__ ["self", "hung"]) (G_Tree___init__ : FnOk P w K mg base (L2.CX P w) 3 f_Tree___init__ fd_Tree___init__ ["self", "hung"] (spTree Z)) (M_Tree : Mk K Z.a_Tree f_Tree___init__) : FnOk P w K mg base (L2N.CX P w) 6 f fd ["tree", "block", "place"] (spMovedK Z) := by
  refine okN F sc_moved (fun vs H Q E h => ?_) (fun cdv A outer s H vs Q E hr h => ?_)
  · obtain ⟨x, hs, b, p, rfl, _⟩ := h
    rfl
  · obtain ⟨x, hs, b, p, rfl, ht, it, kb, kp, q, qe⟩ := h
    refine ⟨_, (pss_cons (ps_if (pt_not (pt_val (pe_call G_is_block (hr.mono (by first | decide | omega)) (by rfl) C_is_block.g C_is_block.k C_is_block.b .nil pass0 (pa_cons (pv 0) (pa_cons (pv 1) pa_nil))))) (pss_one (L2N.ps_raise rfl (L2N.takes_of rfl rfl rfl rfl) (pmk_supN X_NoBlock (hr.mono (by first | decide | omega)) (by rfl) B.k_NoBlock B.b_super))) pss_nil)
 (pss_cons (ps_if (pt_not (pt_val (pe_call G_is_place (hr.mono (by first | decide | omega)) (by rfl) C_is_place.g C_is_place.k C_is_place.b .nil pass0 (pa_cons (pv 0) (pa_cons (pv 2) pa_nil))))) (pss_one (L2N.ps_raise rfl (L2N.takes_of rfl rfl rfl rfl) (pmk_supN X_NoPlace (hr.mono (by first | decide | omega)) (by rfl) B.k_NoPlace B.b_super))) pss_nil)
 (pss_cons (ps_if (PW.pt (pw_or (pt_cmpR op_eq (pv 2) (pv 1) (nomark _)) (pw_or1 (pt_cmpR (op_inK (K := K) rfl) (pv 2) (pe_call G_beneath (hr.mono (by first | decide | omega)) (by rfl) C_beneath.g C_beneath.k C_beneath.b .nil pass0 (pa_cons (pv 0) (pa_cons (pv 1) pa_nil))) (by rfl))))) (pss_one (L2N.ps_raise rfl (L2N.takes_of rfl rfl rfl rfl) (pmk_supN X_Beneath (hr.mono (by first | decide | omega)) (by rfl) B.k_Beneath B.b_super))) pss_nil)
 (pss_one (ps_ret (pe_make M_Tree G_Tree___init__ (hr.mono (by first | decide | omega)) (by rfl) B.k_Tree C_Tree___init__.b .nil passE (pa_cons (pe_op (op_catAK (K := K) rfl) (pe_op (op_catAK (K := K) rfl) (pe_slice (sl_tupAK (K := K) rfl) (pe_fldK (K := K) rfl (pv 0) rfl) po_none (po_some (pe_op op_sub (pv 1) pe_int))) (pe_tup (pa_cons (pv 2) pa_nil))) (pe_slice (sl_tupAK (K := K) rfl) (pe_fldK (K := K) rfl (pv 0) rfl) (po_some (pv 1)) po_none)) pa_nil))))))), ?_⟩
    walk_at "h0"
    refine ⟨x, hs, _, rfl, ht, kb, ?_⟩
    cases hb : numV 1 hs.length b with
    | false =>
      walk_at "hs"
      refine qe ?_ _ _ (.inl rfl) (Same.refl _)
      cases b with
      | int b =>
        cases p with
        | int p =>
          have : (decide ((1 : Int) ≤ b) && decide (b ≤ hs.length)) = false := hb
          rw [Bool.and_eq_false_iff, decide_eq_false_iff_not, decide_eq_false_iff_not] at this
          exact if_neg (fun h => this.elim (fun z => z h.1) fun z => z h.2.1)
        | _ => rfl
      | _ => rfl
    | true =>
      obtain ⟨b, rfl, b1, b2⟩ := num_out hb
      obtain ⟨b, rfl⟩ := Int.eq_ofNat_of_zero_le (show 0 ≤ b by omega)
      walk_at "hs"
      refine ⟨x, hs, _, rfl, ht, kp, ?_⟩
      cases hp : numV 0 hs.length p with
      | false =>
        walk_at "hs"
        refine qe ?_ _ _ (.inr (.inl rfl)) (Same.refl _)
        cases p with
        | int p =>
          have : (decide ((0 : Int) ≤ p) && decide (p ≤ hs.length)) = false := hp
          rw [Bool.and_eq_false_iff, decide_eq_false_iff_not, decide_eq_false_iff_not] at this
          exact if_neg (fun h => this.elim (fun z => z h.2.2.1) fun z => z h.2.2.2.1)
        | _ => rfl
      | true =>
        obtain ⟨p, rfl, p1, p2⟩ := num_out hp
        obtain ⟨p, rfl⟩ := Int.eq_ofNat_of_zero_le p1
        walk_at "hs"
        refine x_isd (fun c => ?_) (fun c => ?_)
        · walk_at "hs"
          exact qe (if_neg fun h => h.2.2.2.2.1 c) _ _ (.inr (.inr rfl)) (Same.refl _)
        have c' : p ≠ b := fun e => c (by rw [e])
        walk_at "hs"
        refine ⟨x, hs, b, rfl, ht, it, by omega, fun D H1 s1 nD eD => ?_⟩
        refine x_inNT (.of eD) ?_
        walk_at "hs"
        refine x_isd (fun c2 => ?_) (fun c2 => ?_)
        · have c3 := (below_mem (by omega)).mp c2
          walk_at "hs"
          exact qe (if_neg fun h => h.2.2.2.2.2 c3) _ _ (.inr (.inr rfl)) s1
        · have c3 : b ∉ way hs p := fun h => c2 ((below_mem (by omega)).mpr h)
          have ok : okMv hs (.int (b : Int)) (.int (p : Int)) = some (b, p) := if_pos ⟨b1, b2, p1, p2, c, c3⟩
          walk_at "hs"
          refine x_make ?_
          walk_at "hs"
          have := it.most
          have nl := nats_length hs
          obtain ⟨dx, u, h1, h2⟩ := ht.same s1
          refine ⟨x, _, dx, _, _, rfl, h1, T, N, rfl, ?_⟩
          walk_at "hs"
          refine x_slA h2 fun D2 H2 s2 e2 => ?_
          rw [show ((b : Int) - 1) = ((b - 1 : Nat) : Int) by omega, cut_take] at e2
          walk_at "hs"
          intro p1 n1
          walk_at "hs"
          refine x_catA (keepN e2 n1) upd_same (by rw [List.length_take, List.length_cons, List.length_nil]; omega) fun D3 H3 s3 e3 => ?_
          have s13 : Same H1 H3 := fun a o e => s3 _ _ (keepN (s2 _ _ e) n1)
          walk_at "hs"
          refine ⟨x, _, dx, _, _, rfl, s13 _ _ h1, T, N, rfl, ?_⟩
          walk_at "hs"
          refine x_slA (s13 _ _ h2) fun D4 H4 s4 e4 => ?_
          rw [cut_drop] at e4
          refine x_catA (s4 _ _ e3) e4 (by rw [List.length_append, List.length_take, List.length_drop, List.length_cons, List.length_nil]; omega) fun D5 H5 s5 e5 => ?_
          rw [put_cut (by omega) (by omega)] at e5
          walk_at "hs"
          refine make_tree (Q := Q) (put_tree it (by omega) (by omega) (by omega) c' c3) e5 fun m H6 nm s6 tr => ?_
          have s05 : Same H H5 := fun a o e => s5 _ _ (s4 _ _ (s13 _ _ (s1 _ _ e)))
          exact q b p ok m H6 (s05.trans s6) (s05.free nm) tr
end
set_option maxRecDepth 100000
set_option maxHeartbeats 2000000
open PySem PySem.Spec L2


theorem sc_BadHistory___init__ : FnScope ["self", "part"] ["self", "part"] (defScope s_BadHistory___init__) := ⟨rfl, rfl, rfl, by decide +kernel, rfl, by decide +kernel, by decide +kernel⟩
theorem sc_History___init__ : FnScope ["self", "tree", "moves", "last", "at", "move"] ["self", "tree", "moves"] (defScope s_History___init__) := ⟨rfl, rfl, rfl, by decide +kernel, rfl, by decide +kernel, by decide +kernel⟩
theorem putF_len (f : Str) (v : V) : ∀ fs : List (Str × V), (putF f v fs).length ≤ fs.length + 1
  | [] => Nat.le_refl _
  | (g, x) :: r => by
    have ih := putF_len f v r
    unfold putF
    split
    · simp
    · rw [List.length_cons, List.length_cons]
      omega
def stepM (H : Hp) (hs : List Nat) (m : V) : Option (Nat × Nat) := match tupOf H m with
  | some [b, p] => okMv hs b p
  | _ => none
def runs (H : Hp) : List Nat → List V → Option (List Nat)
  | hs, [] => some hs
  | hs, m :: r => match stepM H hs m with
    | none => none
    | some x => runs H (put hs x.1 x.2) r
def badAt (H : Hp) : List Nat → List V → Option Nat
  | _, [] => none
  | hs, m :: r => match stepM H hs m with
    | none => some 0
    | some x => (badAt H (put hs x.1 x.2) r).map (· + 1)
theorem runs_snoc {H : Hp} {m : V} {gs : List Nat} {x : Nat × Nat} (h2 : stepM H gs m = some x) : ∀ {l : List V} {hs : List Nat}, runs H hs l = some gs → runs H hs (l ++ [m]) = some (put gs x.1 x.2)
  | [], hs, h => by
    cases h
    show (match stepM H gs m with | none => none | some x => runs H (put gs x.1 x.2) []) = _
    rw [h2]
    rfl
  | a :: l, hs, h => by
    have h : (match stepM H hs a with | none => none | some x => runs H (put hs x.1 x.2) l) = some gs := h
    show (match stepM H hs a with | none => none | some x => runs H (put hs x.1 x.2) (l ++ [m])) = _
    cases e : stepM H hs a with
    | none => rw [e] at h; cases h
    | some y =>
      rw [e] at h
      exact runs_snoc h2 h
theorem badAt_none {H : Hp} {gs : List Nat} : ∀ {l : List V} {hs : List Nat}, runs H hs l = some gs → badAt H hs l = none
  | [], hs, h => rfl
  | a :: l, hs, h => by
    have h : (match stepM H hs a with | none => none | some x => runs H (put hs x.1 x.2) l) = some gs := h
    show (match stepM H hs a with | none => some 0 | some x => (badAt H (put hs x.1 x.2) l).map (· + 1)) = none
    cases e : stepM H hs a with
    | none => rw [e] at h; cases h
    | some y =>
      rw [e] at h
      show (badAt H (put hs y.1 y.2) l).map (· + 1) = none
      rw [badAt_none h]
      rfl
theorem badAt_some {H : Hp} {gs : List Nat} {m : V} (h2 : stepM H gs m = none) : ∀ {k : Nat} {l : List V} {hs : List Nat}, runs H hs (l.take k) = some gs → l[k]? = some m → badAt H hs l = some k
  | _, [], hs, _, e => by cases e
  | 0, a :: l, hs, h, e => by
    cases h
    cases e
    show (match stepM H gs m with | none => some 0 | some x => (badAt H (put gs x.1 x.2) l).map (· + 1)) = _
    rw [h2]
  | k + 1, a :: l, hs, h, e => by
    have h : (match stepM H hs a with | none => none | some x => runs H (put hs x.1 x.2) (l.take k)) = some gs := h
    show (match stepM H hs a with | none => some 0 | some x => (badAt H (put hs x.1 x.2) l).map (· + 1)) = _
    cases e2 : stepM H hs a with
    | none => rw [e2] at h; cases h
    | some y =>
      rw [e2] at h
      show (badAt H (put hs y.1 y.2) l).map (· + 1) = _
      rw [badAt_some h2 h e]
      rfl
theorem okMv_is {hs : List Nat} {b p : V} {x : Nat × Nat} (h : okMv hs b p = some x) : b = .int (x.1 : Nat) ∧ p = .int (x.2 : Nat) ∧ 1 ≤ x.1 ∧ x.1 ≤ hs.length ∧ x.2 ≤ hs.length ∧ x.2 ≠ x.1 ∧ x.1 ∉ way hs x.2 := by
  cases b with
  | int b => cases p with
    | int p =>
      replace h : (if 1 ≤ b ∧ b ≤ hs.length ∧ 0 ≤ p ∧ p ≤ hs.length ∧ p ≠ b ∧ b.toNat ∉ way hs p.toNat then some (b.toNat, p.toNat) else none) = some x := h
      by_cases c : 1 ≤ b ∧ b ≤ hs.length ∧ 0 ≤ p ∧ p ≤ hs.length ∧ p ≠ b ∧ b.toNat ∉ way hs p.toNat
      · rw [if_pos c] at h
        cases h
        obtain ⟨c1, c2, c3, c4, c5, c6⟩ := c
        refine ⟨?_, ?_, ?_, ?_, ?_, ?_, c6⟩
        · show V.int b = .int (b.toNat : Nat)
          rw [Int.toNat_of_nonneg (by omega)]
        · show V.int p = .int (p.toNat : Nat)
          rw [Int.toNat_of_nonneg c3]
        all_goals (show _; dsimp only; omega)
      · rw [if_neg c] at h
        cases h
    | _ => cases h
  | _ => cases h
theorem step_is {H : Hp} {hs : List Nat} {m : V} {x : Nat × Nat} (h : stepM H hs m = some x) : tupOf H m = some [.int (x.1 : Nat), .int (x.2 : Nat)] ∧ 1 ≤ x.1 ∧ x.1 ≤ hs.length ∧ x.2 ≤ hs.length ∧ x.2 ≠ x.1 ∧ x.1 ∉ way hs x.2 := by
  unfold stepM at h
  cases e : tupOf H m with
  | none => rw [e] at h; cases h
  | some l =>
    rw [e] at h
    match l, h with
    | [b, p], h =>
      obtain ⟨e1, e2, e3⟩ := okMv_is h
      rw [e1, e2]
      exact ⟨rfl, e3⟩
    | [], h => cases h
    | [_], h => cases h
    | _ :: _ :: _ :: _, h => cases h
theorem runs_tree {H : Hp} : ∀ {l : List V} {hs gs : List Nat}, IsTree hs → runs H hs l = some gs → IsTree gs ∧ gs.length = hs.length
  | [], hs, gs, t, h => by
    cases h
    exact ⟨t, rfl⟩
  | a :: l, hs, gs, t, h => by
    have h : (match stepM H hs a with | none => none | some x => runs H (put hs x.1 x.2) l) = some gs := h
    cases e : stepM H hs a with
    | none => rw [e] at h; cases h
    | some y =>
      rw [e] at h
      obtain ⟨_, e1, e2, e3, e4, e5⟩ := step_is e
      obtain ⟨t2, l2⟩ := runs_tree (put_tree t e1 e2 e3 e4 e5) h
      exact ⟨t2, l2.trans (put_len _ _ _)⟩
inductive DH where
  | moves
  | at (k : Nat)
  | ok
def dueH (H : Hp) (hs : List Nat) (mv : V) : DH := match tupOf H mv with
  | none => .moves
  | some xs => if xs.length > 100 then .moves else match badAt H hs xs with
    | some k => .at k
    | none => .ok
def valH : DH → V
  | .moves => .str "moves"
  | .at k => .int (k : Nat)
  | .ok => .str "let"
theorem step_same {Z : Ad} {H H' : Hp} {hs : List Nat} {m : V} (s : Same H H') (k : Kv Z H m) : stepM H' hs m = stepM H hs m := by
  unfold stepM
  rw [tupOf_same s k]
theorem due_moves {H : Hp} {hs : List Nat} {mv : V} (h : ∀ xs, tupOf H mv = some xs → xs.length > 100) : dueH H hs mv = .moves := by
  unfold dueH
  cases e : tupOf H mv with
  | none => rfl
  | some xs => exact if_pos (h xs e)
theorem due_at {H : Hp} {hs gs : List Nat} {mv m : V} {xs : List V} {k : Nat} (e : tupOf H mv = some xs) (hl : ¬ xs.length > 100) (h1 : runs H hs (xs.take k) = some gs) (h2 : xs[k]? = some m) (h3 : stepM H gs m = none) : dueH H hs mv = .at k := by
  unfold dueH
  rw [e]
  refine (if_neg hl).trans ?_
  rw [badAt_some h3 h1 h2]
theorem due_ok {H : Hp} {hs gs : List Nat} {mv : V} {xs : List V} (e : tupOf H mv = some xs) (hl : ¬ xs.length > 100) (h1 : runs H hs xs = some gs) : dueH H hs mv = .ok := by
  unfold dueH
  rw [e]
  refine (if_neg hl).trans ?_
  rw [badAt_none h1]
structure TyAp (K : PySem.W.Frag) (Z : Ad) : Prop where
  k : ∀ T : String, T = "NoneType" ∨ T = "bool" ∨ T = "int" ∨ T = "str" ∨ T = "list" ∨ T = "tuple" ∨ T = "dict" → PySem.W.kitOne K (.type T) (.ref Z.a_Tree) = some false
section
variable {P : Program} {w : World} {K : PySem.W.Frag} {mg : Str → Option Value} {base : Heap} {Z : Ad}
theorem isi_noTree {H : Hp} {Q : VK} {x : V} (T : TyAp K Z) (k : Kn H x) (q : Q (.bl false) H) : rIsi K [x, .ref Z.a_Tree] H Q := by
  have go : ∀ t : String, TyX K H x (.type t) → PySem.W.kitOne K (.type t) (.ref Z.a_Tree) = some false → rIsi K [x, .ref Z.a_Tree] H Q := fun t ty e => ⟨x, .ref Z.a_Tree, .type t, .ref Z.a_Tree, false, rfl, .own Z.a_Tree, ty, e, q⟩
  cases x with
  | non => exact go _ (.base .non) (T.k _ (.inl rfl))
  | bl b => exact go _ (.base (.bl b)) (T.k _ (.inr (.inl rfl)))
  | int b => exact go _ (.base (.int b)) (T.k _ (.inr (.inr (.inl rfl))))
  | str b => exact go _ (.base (.str b)) (T.k _ (.inr (.inr (.inr (.inl rfl)))))
  | ref a =>
    rcases k with ⟨xs, h⟩ | ⟨xs, h⟩ | ⟨xs, h⟩
    · exact go _ (.base (.lst h)) (T.k _ (.inr (.inr (.inr (.inr (.inl rfl))))))
    · exact go _ (.base (.tup h)) (T.k _ (.inr (.inr (.inr (.inr (.inr (.inl rfl)))))))
    · exact go _ (.base (.dK h)) (T.k _ (.inr (.inr (.inr (.inr (.inr (.inr rfl)))))))
  | _ => exact k.elim
theorem ok_badH {f : Addr} {fd : FuncData} (F : Fun K "__init__" "BadHistory.__init__" s_BadHistory___init__ f fd) (X_BadHistory : ExcF K Z.a_BadHistory f "part") : FnOk P w K mg base CX0 1 f fd ["self", "part"] (spField Z.a_BadHistory "part") := by
  refine F.ok sc_BadHistory___init__ (fun vs H Q E h => ?_) (fun cdv A outer s H vs Q E hr h => ?_)
  · obtain ⟨a, v, rfl, _⟩ := h
    rfl
  · obtain ⟨a, v, rfl, ha, q⟩ := h
    refine ⟨_, (pss_one (ps_ost (pv 0) (pv 1))), ?_⟩
    walk_at "h0"
    exact ⟨a, _, rfl, X_BadHistory.T, X_BadHistory.n, .inl ⟨ha, q⟩⟩
theorem ok_badHot {f : Addr} {fd : FuncData} (F : Fun K "__init__" "BadHistory.__init__" s_BadHistory___init__ f fd) (X_BadHistory : ExcF K Z.a_BadHistory f "part") : L2H.FnH P w K mg base CX0 1 f fd ["self", "part"] (spField Z.a_BadHistory "part") := by
  refine okH F sc_BadHistory___init__ (fun vs H Q E h => ?_) (fun cdv A outer s H vs Q E p h => ?_)
  · obtain ⟨a, v, rfl, _⟩ := h
    rfl
  · obtain ⟨a, v, rfl, ha, q⟩ := h
    refine ⟨_, (pss_one (ps_ost (pv 0) (pv 1))), ?_⟩
    walk_at "h0"
    exact ⟨a, _, rfl, X_BadHistory.T, X_BadHistory.n, .inl ⟨ha, q⟩⟩
structure MvX (K : PySem.W.Frag) (Z : Ad) : Prop where
  k : ∀ c, c = Z.a_NoBlock ∨ c = Z.a_NoPlace ∨ c = Z.a_Beneath → PySem.W.exmAny K (.ref c) [.ref Z.a_NoBlock, .ref Z.a_NoPlace, .ref Z.a_Beneath] = some true
structure HisC (K : PySem.W.Frag) (Z : Ad) : Prop where
  c : Cls K Z.a_History
  nt : NoAttr K Z.a_History "tree"
  nm : NoAttr K Z.a_History "moves"
def spHist (Z : Ad) : Sp := fun vs H Q E => ∃ (h dh : Addr) (tv mv : V), vs = [.ref h, tv, mv] ∧ H h = some (.ins Z.a_History dh []) ∧ KvD Z H 2 mv ∧
  ((∃ x hs, tv = .ref x ∧ TreeAt Z H x hs ∧ IsTree hs ∧ (dueH H hs mv = .ok → ∀ H', But h H H' → H' h = some (.ins Z.a_History dh [("tree", tv), ("moves", mv)]) → Q .non H') ∧ (∀ e H', dueH H hs mv ≠ .ok → Same H H' → H' e = some (.xd [("part", valH (dueH H hs mv))]) → E (.ref Z.a_BadHistory) (some e) H')) ∨
  (Kn H tv ∧ ∀ e H', Same H H' → H' e = some (.xd [("part", .str "tree")]) → E (.ref Z.a_BadHistory) (some e) H'))
theorem ok_hist {f : Addr} {fd : FuncData} (F : Fun K "__init__" "History.__init__" s_History___init__ f fd) (B : Bl Z mg) (I : InsK K Z) (A0 : TyAp K Z) (MX : MvX K Z) (HC : HisC K Z) {f_is_pair : Addr} {fd_is_pair : FuncData} (C_is_pair : Cal K mg "is_pair" f_is_pair fd_is_pair ["thing"]) (G_is_pair : FnOk P w K mg base CX0 1 f_is_pair fd_is_pair ["thing"] (spPairK Z)) {f_moved : Addr} {fd_moved : FuncData} (C_moved : Cal K mg "moved" f_moved fd_moved ["tree", "block", "place"]) (G_moved : FnOk P w K mg base (L2N.CX P w) 6 f_moved fd_moved ["tree", "block", "place"] (spMovedK Z))
    {f_BadHistory___init__ : Addr} {fd_BadHistory___init__ : FuncData} (C_BadHistory___init__ : CalM K f_BadHistory___init__ fd_BadHistory___init__ ["self", "part"]) (G_BadHistory___init__ : FnOk P w K mg base CX0 1 f_BadHistory___init__ fd_BadHistory___init__ ["self", "part"] (spField Z.a_BadHistory "part")) (G_H : L2H.FnH P w K mg base CX0 1 f_BadHistory___init__ fd_BadHistory___init__ ["self", "part"] (spField Z.a_BadHistory "part")) (X_BadHistory : ExcF K Z.a_BadHistory f_BadHistory___init__ "part") : FnOk P w K mg base (L2.CX P w) 7 f fd ["self", "tree", "moves"] (spHist Z) := by
  refine F.okX sc_History___init__ (fun vs H Q E h => ?_) (fun cdv A outer s H vs Q E hr h => ?_)
  · obtain ⟨h, dh, tv, mv, rfl, _⟩ := h
    rfl
  · obtain ⟨h, dh, tv, mv, rfl, hh, km, hc⟩ := h
    refine ⟨_, (pss_cons (ps_if (pt_not (pt_val (pe_callB (call_isiK' (K := K) rfl) (by rfl) B.b_isinstance (by decide +kernel) (pa_cons (pv 1) (pa_cons (pe_glob (v := .ref Z.a_Tree) rfl B.k_Tree rfl) pa_nil))))) (pss_one (ps_raise rfl (takes_of rfl rfl rfl rfl) (pmk_oex X_BadHistory.T X_BadHistory.i X_BadHistory.t G_BadHistory___init__ (hr.mono (by first | decide | omega)) C_BadHistory___init__.b .nil pass0 (by rfl) B.k_BadHistory (pa_cons pe_str pa_nil)))) pss_nil)
 (pss_cons (ps_if (PW.pt (pw_or (pt_not (pt_val (pe_callB (call_isiK' (K := K) rfl) (by rfl) B.b_isinstance (by decide +kernel) (pa_cons (pv 2) (pa_cons (pe_bltn (v := .ty "tuple") (by rfl) B.b_tuple (by decide +kernel) rfl) pa_nil))))) (pw_or1 (pt_cmpR op_gt (pe_callB (call_lenK (K := K) rfl) (by rfl) B.b_len PySem.boot_len (pa_cons (pv 2) pa_nil)) (pe_glob (v := .int (100)) rfl B.c_MOST_MOVES ⟨_, rfl⟩) (nomark _))))) (pss_one (ps_raise rfl (takes_of rfl rfl rfl rfl) (pmk_oex X_BadHistory.T X_BadHistory.i X_BadHistory.t G_BadHistory___init__ (hr.mono (by first | decide | omega)) C_BadHistory___init__.b .nil pass0 (by rfl) B.k_BadHistory (pa_cons pe_str pa_nil)))) pss_nil)
 (pss_cons (ps_set (i := 3) sc_History___init__.nd rfl (Or.inl rfl) (pv 1))
 (pss_cons (ps_for (passes_of rfl) rfl (pi_enumT0 (K := K) rfl rfl (by rfl) B.b_enumerate (pa_cons (pv 2) pa_nil)) (pg_tup rfl (pgs_cons (pg_name (i := 4) sc_History___init__.nd rfl (Or.inl rfl)) (pgs_cons (pg_name (i := 5) sc_History___init__.nd rfl (Or.inl rfl)) pgs_nil))) (pss_cons (ps_if (pt_not (pt_val (pe_call G_is_pair (hr.mono (by first | decide | omega)) (by rfl) C_is_pair.g C_is_pair.k C_is_pair.b .nil pass0 (pa_cons (pv 5) pa_nil)))) (pss_one (ps_raise rfl (takes_of rfl rfl rfl rfl) (pmk_oex X_BadHistory.T X_BadHistory.i X_BadHistory.t G_BadHistory___init__ (hr.mono (by first | decide | omega)) C_BadHistory___init__.b .nil pass0 (by rfl) B.k_BadHistory (pa_cons (pv 4) pa_nil)))) pss_nil)
 (pss_one (ps_try_tup3 rfl rfl ⟨rfl, by decide, Or.inl B.k_NoBlock⟩ ⟨rfl, by decide, Or.inl B.k_NoPlace⟩ ⟨rfl, by decide, Or.inl B.k_Beneath⟩ (L2H.passesAt_of rfl) (takes_of rfl rfl rfl rfl) (fun W pn xe tk po => (pss_one (ps_set (i := 3) sc_History___init__.nd rfl (Or.inl rfl) (pe_callS (E := WE W) G_moved (hr.mono (by first | decide | omega)) (by rfl) C_moved.g C_moved.k C_moved.b (fun σ => L2N.passAt tk σ) (pa_cons (pv 3) (pa_cons (pe_ix (ix_tupK (K := K) rfl) (pv 5) pe_int (fun _ _ => rfl)) (pa_cons (pe_ix (ix_tupK (K := K) rfl) (pv 5) pe_int (fun _ _ => rfl)) pa_nil))))))) (fun a oe cls d pn hz hf tkS hot => (pss_one (L2H.ps_raiseHN hot tkS (L2H.pmk5_oexH X_BadHistory.T X_BadHistory.i X_BadHistory.t G_H (L2H.roomH_mark (hr.mono (by first | decide | omega)) _) hot C_BadHistory___init__.b pass0 (by rfl) B.k_BadHistory (pa_cons (pv 4) pa_nil)))))))))
 (pss_cons (ps_fld (pv 0) (pv 1) rfl)
 (pss_one (ps_fld (pv 0) (pv 2) rfl))))))), ?_⟩
    walk_at "h0"
    rcases hc with ⟨x, hs, rfl, tr, it, q, qe⟩ | ⟨kt, qe⟩
    · obtain ⟨dx, tt, h1, h2⟩ := id tr
      refine isi_own I.i h1 ?_
      walk_at "hs"
      have raised : ∀ (v : V) (d : DH) H1, dueH H hs mv = d → d ≠ .ok → valH d = v → Same H H1 → [v].length ≤ 1000 ∧ ∀ a, H1 a = none → spField Z.a_BadHistory "part" (.ref a :: ([v] ++ [])) (upd H1 a (exo a Z.a_BadHistory none)) (fun v H2 => v = .non ∧ ∃ (d : Addr) (fs : List (Str × V)), H2 a = some (exo a Z.a_BadHistory (some d)) ∧ H2 d = some (exd d fs) ∧ H1 d = none ∧ E (.ref Z.a_BadHistory) (some d) (upd (del H2 a) d (.xd fs))) (fun _ _ _ => False) := fun v d H1 hd nd hv s1 =>
        mk_field fun e H' s2 _ he => qe e H' (hd ▸ nd) (s1.trans s2) (by rw [hd, hv]; exact he)
      refine kv_tuple I km.kv ?_
      cases em : tupOf H mv with
      | none =>
        dsimp only [Option.isSome_none]
        walk_at "hs"
        exact raised _ .moves H (due_moves fun xs e => by rw [em] at e; cases e) (fun e => by cases e) rfl (Same.refl _)
      | some xs =>
        obtain ⟨tm, rfl, etm⟩ := tupOf_ref em
        have stm : SqT K H tm xs := .of etm
        dsimp only [Option.isSome_some]
        walk_at "hs"
        refine x_isd (fun c => ?_) (fun c => ?_)
        · walk_at "hs"
          exact raised _ .moves H (due_moves fun ys e => by rw [em] at e; cases e; omega) (fun e => by cases e) rfl (Same.refl _)
        have hl : ¬ xs.length > 100 := by omega
        have kx : ∀ m ∈ xs, KvD Z H 1 m := km.2 xs em
        walk_at "hs"
        refine x_ent1 stm ?_
        refine lp_enumT (K := K) (xs := xs) (fun i σ' H' => (∃ xl gs x4 x5, σ' = [some (.ref h), some (.ref x), some (.ref tm), some (.ref xl), x4, x5] ∧ runs H hs (xs.take i) = some gs ∧ TreeAt Z H' xl gs) ∧ Same H H')
          ⟨⟨x, hs, _, _, rfl, rfl, tr⟩, Same.refl _⟩ (fun i σ' H' _ hp => .of (hp.2 _ _ etm)) ?_ ?_
        · rintro i m σ' H1 T hm ⟨⟨xl, gs, x4, x5, rfl, hrun, trl⟩, s1⟩ hT
          have hmem : m ∈ xs := List.mem_of_getElem? hm
          have km1 := (kx m hmem).same s1
          have rt := runs_tree it hrun
          have bad : stepM H gs m = none → dueH H hs (.ref tm) = .at i := fun h3 => due_at em hl hrun hm h3
          have s2 : Same H (upd H1 T (.tup [.int (0 + (i : Int)), m])) := same_new s1 hT
          have km2 : KvD Z (upd H1 T (.tup [.int (0 + (i : Int)), m])) 1 m := (kx m hmem).same s2
          have trl2 := trl.same (same_new (Same.refl _) hT (o := .tup [.int (0 + (i : Int)), m]))
          have st : SqT K (upd H1 T (.tup [.int (0 + (i : Int)), m])) T [.int (0 + (i : Int)), m] := .of upd_same
          have vi : valH (.at i) = .int (0 + (i : Int)) := by rw [Int.zero_add]; rfl
          generalize upd H1 T (.tup [.int (0 + (i : Int)), m]) = H2 at *
          walk_at "hs"
          refine ⟨m, rfl, km2.kv, ?_⟩
          cases hp : lenIs H2 2 m with
          | false =>
            walk_at "hs"
            refine raised _ (.at i) H2 (bad ?_) (fun e => by cases e) vi s2
            have e2 := tupOf_same (Z := Z) s2 (kx m hmem).kv
            unfold stepM
            unfold lenIs at hp
            rw [e2] at hp
            cases e3 : tupOf H m with
            | none => rfl
            | some l =>
              rw [e3] at hp
              match l, hp with
              | [], _ => rfl
              | [_], _ => rfl
              | [_, _], hp => simp at hp
              | _ :: _ :: _ :: _, _ => rfl
          | true =>
            obtain ⟨b, p, em2⟩ : ∃ b p, tupOf H2 m = some [b, p] := by
              unfold lenIs at hp
              cases e3 : tupOf H2 m with
              | none => rw [e3] at hp; cases hp
              | some l =>
                rw [e3] at hp
                match l, hp with
                | [], hp => simp at hp
                | [_], hp => simp at hp
                | [b, p], _ => exact ⟨b, p, rfl⟩
                | _ :: _ :: _ :: _, hp =>
                  have := of_decide_eq_true hp
                  simp only [List.length_cons] at this
                  omega
            obtain ⟨am, rfl, eam⟩ := tupOf_ref em2
            have sam : SqT K H2 am [b, p] := .of eam
            have sm : stepM H gs (.ref am) = okMv gs b p := by
              rw [← step_same (Z := Z) s2 (kx _ hmem).kv]
              unfold stepM
              rw [em2]
            walk_at "hs"
            refine x_callS ?_
            walk_at "hs"
            refine ⟨xl, gs, b, p, rfl, trl2, rt.1, (km2.2 _ em2 b (by simp)), (km2.2 _ em2 p (by simp)), fun c d hok m2 H3 s3 nm tr3 => ?_, fun hno c H3 hc s3 => ⟨MX.k c hc, fun a na => ?_⟩⟩
            · walk_at "hs"
              refine ⟨⟨m2, put gs c d, _, _, rfl, ?_, tr3⟩, s2.trans s3⟩
              rw [List.take_succ, hm]
              exact runs_snoc (x := (c, d)) (sm.trans hok) hrun
            · walk_at "hs"
              exact raised _ (.at i) H3 (bad (sm.trans hno)) (fun e => by cases e) vi (s2.trans s3)
        · rintro σ' H1 ⟨⟨xl, gs, x4, x5, rfl, hrun, trl⟩, s1⟩
          rw [List.take_length] at hrun
          have dok := due_ok em hl hrun
          have hh1 := s1 _ _ hh
          walk_at "hs"
          refine ⟨h, _, dh, [], rfl, hh1, HC.c, HC.nt, by decide, ?_⟩
          walk_at "hs"
          refine ⟨h, _, dh, _, rfl, upd_same, HC.c, HC.nm, Nat.lt_of_le_of_lt (putF_len ..) (by decide), ?_⟩
          walk_at "hs"
          refine q dok _ (((But.of s1).mut).mut) ?_
          rw [upd_same]
          rfl
    · refine isi_noTree A0 kt ?_
      walk_at "hs"
      exact mk_field fun e H' s2 _ he => qe e H' s2 he
end
set_option maxRecDepth 100000
set_option maxHeartbeats 2000000
open PySem PySem.Spec L2


def okPr (hs : List Nat) (x : Nat × Nat) : Prop := 1 ≤ x.1 ∧ x.1 ≤ hs.length ∧ x.2 ≤ hs.length ∧ x.2 ≠ x.1 ∧ x.1 ∉ way hs x.2
def final (hs : List Nat) (ms : List (Nat × Nat)) : List Nat := ms.foldl (fun h x => put h x.1 x.2) hs
def OkAll (hs : List Nat) (ms : List (Nat × Nat)) : Prop := ∀ i x, ms[i]? = some x → okPr (final hs (ms.take i)) x
theorem final_snoc (hs : List Nat) (ms : List (Nat × Nat)) (x : Nat × Nat) : final hs (ms ++ [x]) = put (final hs ms) x.1 x.2 := by
  unfold final
  rw [List.foldl_append]
  rfl
theorem final_take {hs : List Nat} {ms : List (Nat × Nat)} {i : Nat} {x : Nat × Nat} (h : ms[i]? = some x) : final hs (ms.take (i + 1)) = put (final hs (ms.take i)) x.1 x.2 := by
  rw [List.take_succ, h]
  exact final_snoc _ _ _
theorem final_len (hs : List Nat) : ∀ (ms : List (Nat × Nat)), (final hs ms).length = hs.length := fun ms => by
  unfold final
  induction ms generalizing hs with
  | nil => rfl
  | cons x ms ih =>
    rw [List.foldl_cons, ih, put_len]
theorem OkAll.nil (hs : List Nat) : OkAll hs [] := fun i x h => by cases h
theorem OkAll.snoc {hs : List Nat} {ms : List (Nat × Nat)} {x : Nat × Nat} (h : OkAll hs ms) (k : okPr (final hs ms) x) : OkAll hs (ms ++ [x]) := fun i y e => by
  rcases Nat.lt_or_ge i ms.length with c | c
  · rw [List.getElem?_append_left c] at e
    rw [List.take_append_of_le_length (by omega)]
    exact h i y e
  · rw [List.getElem?_append_right c] at e
    have hi : i - ms.length = 0 := by
      have := (List.getElem?_eq_some_iff.mp e).1
      rw [List.length_singleton] at this
      omega
    rw [hi] at e
    cases e
    have : i = ms.length := by omega
    subst this
    rw [List.take_append_of_le_length (Nat.le_refl _), List.take_length]
    exact k
theorem OkAll.trees {hs : List Nat} {ms : List (Nat × Nat)} (t : IsTree hs) (h : OkAll hs ms) : ∀ i, IsTree (final hs (ms.take i))
  | 0 => t
  | i + 1 => by
    have ih := OkAll.trees t h i
    cases e : ms[i]? with
    | none =>
      have hl := List.getElem?_eq_none_iff.mp e
      rw [List.take_of_length_le (by omega)]
      rw [List.take_of_length_le hl] at ih
      exact ih
    | some x =>
      rw [final_take e]
      obtain ⟨h1, h2, h3, h4, h5⟩ := h i x e
      exact put_tree ih h1 h2 h3 h4 h5
theorem OkAll.tree {hs : List Nat} {ms : List (Nat × Nat)} (t : IsTree hs) (h : OkAll hs ms) : IsTree (final hs ms) := by
  have := h.trees t ms.length
  rwa [List.take_length] at this
theorem step_ok {H : Hp} {hs : List Nat} {v : V} {x : Nat × Nat} (p : PrV H v x) (k : okPr hs x) : stepM H hs v = some x := by
  obtain ⟨t, rfl, ht⟩ := p
  obtain ⟨k1, k2, k3, k4, k5⟩ := k
  unfold stepM
  rw [tupOf_at ht]
  show okMv hs (.int (x.1 : Nat)) (.int (x.2 : Nat)) = some x
  exact if_pos ⟨by omega, by omega, by omega, by omega, fun e => k4 (by omega), k5⟩
theorem runs_ok {H : Hp} {hs : List Nat} {vs : List V} {ms : List (Nat × Nat)} (pv : PrsV H vs ms) (h : OkAll hs ms) : ∀ i, i ≤ vs.length → runs H hs (vs.take i) = some (final hs (ms.take i))
  | 0, _ => rfl
  | i + 1, hi => by
    have hv := List.getElem?_eq_getElem (l := vs) (i := i) (by omega)
    obtain ⟨x, hx, px⟩ := pv.at hv
    rw [List.take_succ, hv, final_take hx]
    exact runs_snoc (step_ok px (h i x hx)) (runs_ok pv h i (by omega))
theorem kvd_prs {Z : Ad} {H : Hp} {u : Addr} {vs : List V} {ms : List (Nat × Nat)} (hu : H u = some (.tup vs)) (pv : PrsV H vs ms) : ∀ n, KvD Z H n (.ref u) := kvd_tup hu fun v hv => by
  obtain ⟨x, t, rfl, ht⟩ := pv.all hv
  exact kvd_tup ht fun y hy => by
    rcases List.mem_cons.mp hy with rfl | hy
    · exact kvd_sca rfl
    · rw [List.mem_singleton.mp hy]
      exact kvd_sca rfl
theorem hist_due {H : Hp} {u : Addr} {hs : List Nat} {vs : List V} {ms : List (Nat × Nat)} (hu : H u = some (.tup vs)) (pv : PrsV H vs ms) (h : OkAll hs ms) (hl : ms.length ≤ 100) : dueH H hs (.ref u) = .ok := by
  have e : tupOf H (.ref u) = some vs := tupOf_at hu
  have r := runs_ok pv h vs.length (Nat.le_refl _)
  rw [List.take_length] at r
  exact due_ok e (by rw [pv.len]; omega) r
def HistAt (Z : Ad) (H : Hp) (x : Addr) (hs : List Nat) (ms : List (Nat × Nat)) : Prop := ∃ dh t u vs, H x = some (.ins Z.a_History dh [("tree", .ref t), ("moves", .ref u)]) ∧ TreeAt Z H t hs ∧ H u = some (.tup vs) ∧ PrsV H vs ms
theorem HistAt.same {Z : Ad} {H H' : Hp} {x : Addr} {hs : List Nat} {ms : List (Nat × Nat)} (s : Same H H') (h : HistAt Z H x hs ms) : HistAt Z H' x hs ms := by
  obtain ⟨dh, t, u, vs, h1, h2, h3, h4⟩ := h
  exact ⟨dh, t, u, vs, s _ _ h1, h2.same s, s _ _ h3, h4.same s⟩
section
variable {P : Program} {w : World} {K : PySem.W.Frag} {mg : Str → Option Value} {base : Heap} {Z : Ad}
theorem make_hist {H : Hp} {R : Addr → Hp → Prop} {t u : Addr} {hs : List Nat} {vs : List V} {ms : List (Nat × Nat)} (tr : TreeAt Z H t hs) (it : IsTree hs) (hu : H u = some (.tup vs)) (pv : PrsV H vs ms) (ok : OkAll hs ms) (hl : ms.length ≤ 100) (q : ∀ m H', H m = none → Same H H' → HistAt Z H' m hs ms → R m H') :
    ∀ x dx, H x = none → H dx = none → dx ≠ x → spHist Z (.ref x :: ([.ref t, .ref u] ++ [])) (upd (upd H dx (.own x)) x (.ins Z.a_History dx [])) (fun v H2 => v = .non ∧ R x H2) (fun _ _ _ => False) := by
  intro m dm hm hdm ne
  have hm2 : upd H dm (.own m) m = none := by
    rw [upd_ne (Ne.symm ne)]
    exact hm
  have s0 : Same H (upd (upd H dm (.own m)) m (.ins Z.a_History dm [])) := same_new (same_new (Same.refl H) hdm) hm2
  have du := hist_due (s0 _ _ hu) (pv.same s0) ok hl
  refine ⟨m, dm, _, _, rfl, upd_same, kvd_prs (s0 _ _ hu) (pv.same s0) 2, .inl ⟨t, hs, rfl, tr.same s0, it, fun _ H' b1 e => ⟨rfl, ?_⟩, fun _ _ nd => (nd du).elim⟩⟩
  have s1 : Same H H' := fun b o e => b1 _ _ (ne_of_none e hm) (s0 _ _ e)
  exact q m H' hm s1 ⟨dm, t, u, vs, e, tr.same s1, s1 _ _ hu, pv.same s1⟩
end
set_option maxRecDepth 100000
set_option maxHeartbeats 1000000
open PySem PySem.Spec L2


theorem sc__is_tuple_of : FnScope ["many", "thing"] ["many", "thing"] (defScope s__is_tuple_of) := ⟨rfl, rfl, rfl, by decide +kernel, rfl, by decide +kernel, by decide +kernel⟩
theorem sc__is_up : FnScope ["blocks", "block", "thing"] ["blocks", "block", "thing"] (defScope s__is_up) := ⟨rfl, rfl, rfl, by decide +kernel, rfl, by decide +kernel, by decide +kernel⟩
theorem sc__is_listing : FnScope ["place", "block", "thing"] ["place", "block", "thing"] (defScope s__is_listing) := ⟨rfl, rfl, rfl, by decide +kernel, rfl, by decide +kernel, by decide +kernel⟩
theorem sc_Words___init__ : FnScope ["self", "blocks", "ups", "lists", "block", "place"] ["self", "blocks", "ups", "lists"] (defScope s_Words___init__) := ⟨rfl, rfl, rfl, by decide +kernel, rfl, by decide +kernel, by decide +kernel⟩
def refs (as : List Addr) : List V := as.map V.ref
theorem refs_length (as : List Addr) : (refs as).length = as.length := List.length_map ..
theorem refs_get {as : List Addr} {i : Nat} {a : Addr} (h : as[i]? = some a) : (refs as)[i]? = some (.ref a) := by
  unfold refs
  rw [List.getElem?_map, h]
  rfl
theorem refs_app (c d : List Addr) : refs (c ++ d) = refs c ++ refs d := List.map_append ..
structure Rows (H : Hp) (as : List Addr) (ls : List (List (Option Bool))) : Prop where
  len : as.length = ls.length
  at_ : ∀ (i : Nat) (a : Addr) (r : List (Option Bool)), as[i]? = some a → ls[i]? = some r → H a = some (.tup (wds r))
theorem Rows.same {H H' : Hp} {as : List Addr} {ls : List (List (Option Bool))} (s : Same H H') (h : Rows H as ls) : Rows H' as ls := ⟨h.len, fun i a r ha hr => s _ _ (h.at_ i a r ha hr)⟩
theorem Rows.but {H H' : Hp} {p : Addr} {as : List Addr} {ls : List (List (Option Bool))} (b : But p H H') (n : ∀ xs, H p ≠ some (.tup xs)) (h : Rows H as ls) : Rows H' as ls := ⟨h.len, fun i a r ha hr => b _ _ (fun e => n _ (e ▸ h.at_ i a r ha hr)) (h.at_ i a r ha hr)⟩
theorem Rows.get {H : Hp} {as : List Addr} {ls : List (List (Option Bool))} (h : Rows H as ls) {i : Nat} (hi : i < ls.length) : ∃ a, as[i]? = some a ∧ H a = some (.tup (wds ls[i])) := by
  have h1 : i < as.length := by rw [h.len]; exact hi
  exact ⟨as[i], List.getElem?_eq_getElem h1, h.at_ i _ _ (List.getElem?_eq_getElem h1) (List.getElem?_eq_getElem hi)⟩
structure WCls (K : PySem.W.Frag) (Z : Ad) : Prop where
  c : Cls K Z.a_Words
  nb : NoAttr K Z.a_Words "blocks"
  nu : NoAttr K Z.a_Words "ups"
  nl : NoAttr K Z.a_Words "lists"
def WordsAt (Z : Ad) (H : Hp) (x : Addr) (n : Nat) (us : List (Option Nat)) (ls : List (List (Option Bool))) : Prop := ∃ dx fs tu tl as, H x = some (.ins Z.a_Words dx fs) ∧ fs.lookup ("blocks" : Str) = some (.int n) ∧ fs.lookup ("ups" : Str) = some (.ref tu) ∧ fs.lookup ("lists" : Str) = some (.ref tl) ∧ H tu = some (.tup (upvs us)) ∧ H tl = some (.tup (refs as)) ∧ Rows H as ls
theorem WordsAt.same {Z : Ad} {H H' : Hp} {x : Addr} {n : Nat} {us : List (Option Nat)} {ls : List (List (Option Bool))} (s : Same H H') (h : WordsAt Z H x n us ls) : WordsAt Z H' x n us ls := by
  obtain ⟨dx, fs, tu, tl, as, h1, h2, h3, h4, h5, h6, h7⟩ := h
  exact ⟨dx, fs, tu, tl, as, s _ _ h1, h2, h3, h4, s _ _ h5, s _ _ h6, h7.same s⟩
section
variable {P : Program} {w : World} {K : PySem.W.Frag} {mg : Str → Option Value} {base : Heap} {Z : Ad}
def spIsTup : Sp := fun vs H Q _ => ∃ (m : Int) (t : Addr) (xs : List V), vs = [.int m, .ref t] ∧ H t = some (.tup xs) ∧ (xs.length : Int) = m ∧ Q (.bl true) H
theorem ok_isTup {f : Addr} {fd : FuncData} (F : Fun K "_is_tuple_of" "_is_tuple_of" s__is_tuple_of f fd) (B : Bl Z mg) : FnOk P w K mg base CX0 1 f fd ["many", "thing"] spIsTup := by
  refine F.ok sc__is_tuple_of (fun vs H Q E h => ?_) (fun cdv A outer s H vs Q E hr h => ?_)
  · obtain ⟨m, t, xs, rfl, _⟩ := h
    rfl
  · obtain ⟨m, t, xs, rfl, ht, hm, q⟩ := h
    refine ⟨_, (pss_one (ps_ret (pe_and (pe_callB (call_isiK' (K := K) rfl) (by rfl) B.b_isinstance (by decide +kernel) (pa_cons (pv 1) (pa_cons (pe_bltn (v := .ty "tuple") (by rfl) B.b_tuple (by decide +kernel) rfl) pa_nil))) (pe_one (pe_cmpR op_eq (pe_callB (call_lenK (K := K) rfl) (by rfl) B.b_len PySem.boot_len (pa_cons (pv 1) pa_nil)) (pv 0) (nomark _)))))), ?_⟩
    walk_at "h0"
    rw [decide_eq_true hm]
    exact q
def spIsUp : Sp := fun vs H Q _ => ∃ (n : Nat) (b : Int) (o : Option Nat), vs = [.int n, .int b, upV o] ∧ (∀ q, o = some q → q ≤ n ∧ (q : Int) ≠ b) ∧ Q (.bl true) H
theorem ok_isUp {f : Addr} {fd : FuncData} (F : Fun K "_is_up" "_is_up" s__is_up f fd) (B : Bl Z mg) {f_is_within : Addr} {fd_is_within : FuncData} (C_is_within : Cal K mg "is_within" f_is_within fd_is_within ["least", "most", "thing"]) (G_is_within : FnOk P w K mg base CX0 1 f_is_within fd_is_within ["least", "most", "thing"] spWithin) : FnOk P w K mg base CX0 2 f fd ["blocks", "block", "thing"] spIsUp := by
  refine F.ok sc__is_up (fun vs H Q E h => ?_) (fun cdv A outer s H vs Q E hr h => ?_)
  · obtain ⟨n, b, o, rfl, _⟩ := h
    rfl
  · obtain ⟨n, b, o, rfl, ho, q⟩ := h
    refine ⟨_, (pss_one (ps_ret (pe_or (pe_cmpR op_isNk (pv 2) pe_non (nomark _)) (pe_one (pe_and (pe_call G_is_within (hr.mono (by first | decide | omega)) (by rfl) C_is_within.g C_is_within.k C_is_within.b .nil pass0 (pa_cons pe_int (pa_cons (pv 0) (pa_cons (pv 2) pa_nil)))) (pe_one (pe_cmpR op_ne (pv 2) (pv 1) (nomark _)))))))), ?_⟩
    cases o with
    | none =>
      dsimp only [upV]
      walk_at "h0"
      exact q
    | some k =>
      dsimp only [upV]
      walk_at "h0"
      obtain ⟨h1, h2⟩ := ho k rfl
      refine ⟨_, _, _, rfl, True.intro, ?_⟩
      rw [num_nat (by omega) h1]
      walk_at "hs"
      rw [decide_eq_true h2]
      exact q
def spIsLst : Sp := fun vs H Q _ => ∃ (p b : Int) (o : Option Bool), vs = [.int p, .int b, wdV o] ∧ (p = b → o = some false) ∧ Q (.bl true) H
theorem ok_isLst {f : Addr} {fd : FuncData} (F : Fun K "_is_listing" "_is_listing" s__is_listing f fd) (B : Bl Z mg) : FnOk P w K mg base CX0 1 f fd ["place", "block", "thing"] spIsLst := by
  refine F.ok sc__is_listing (fun vs H Q E h => ?_) (fun cdv A outer s H vs Q E hr h => ?_)
  · obtain ⟨p, b, o, rfl, _⟩ := h
    rfl
  · obtain ⟨p, b, o, rfl, ho, q⟩ := h
    refine ⟨_, (pss_cons (ps_if (pt_cmpR op_eq (pv 0) (pv 1) (nomark _)) (pss_one (ps_ret (pe_cmpR op_isBk (pv 2) pe_bl (nomark _)))) pss_nil)
 (pss_one (ps_ret (pe_or (pe_cmpR op_isNk (pv 2) pe_non (nomark _)) (pe_one (pe_callB (call_isiK' (K := K) rfl) (by rfl) B.b_isinstance (by decide +kernel) (pa_cons (pv 2) (pa_cons (pe_bltn (v := .ty "bool") (by rfl) B.b_bool (by decide +kernel) rfl) pa_nil)))))))), ?_⟩
    walk_at "h0"
    refine x_isd (fun c => ?_) (fun c => ?_)
    · walk_at "hs"
      rw [decide_eq_true (ho c)]
      exact q
    · walk_at "hs"
      cases o with
      | none =>
        dsimp only [wdV]
        walk_at "hs"
        exact q
      | some k =>
        dsimp only [wdV]
        walk_at "hs"
        exact q
def spWords (Z : Ad) : Sp := fun vs H Q _ => ∃ (x dx tu tl : Addr) (n : Nat) (us : List (Option Nat)) (ls : List (List (Option Bool))) (as : List Addr), vs = [.ref x, .int n, .ref tu, .ref tl] ∧ H x = some (.ins Z.a_Words dx []) ∧ H tu = some (.tup (upvs us)) ∧ H tl = some (.tup (refs as)) ∧ Rows H as ls ∧ WdOk n us ls ∧
  ∀ H', But x H H' → WordsAt Z H' x n us ls → Q .non H'
theorem ok_words {f : Addr} {fd : FuncData} (F : Fun K "__init__" "Words.__init__" s_Words___init__ f fd) (B : Bl Z mg) (W : WCls K Z) {f_is_within : Addr} {fd_is_within : FuncData} (C_is_within : Cal K mg "is_within" f_is_within fd_is_within ["least", "most", "thing"]) (G_is_within : FnOk P w K mg base CX0 1 f_is_within fd_is_within ["least", "most", "thing"] spWithin) {f__is_tuple_of : Addr} {fd__is_tuple_of : FuncData} (C__is_tuple_of : Cal K mg "_is_tuple_of" f__is_tuple_of fd__is_tuple_of ["many", "thing"]) (G__is_tuple_of : FnOk P w K mg base CX0 1 f__is_tuple_of fd__is_tuple_of ["many", "thing"] spIsTup)
    {f__is_up : Addr} {fd__is_up : FuncData} (C__is_up : Cal K mg "_is_up" f__is_up fd__is_up ["blocks", "block", "thing"]) (G__is_up : FnOk P w K mg base CX0 2 f__is_up fd__is_up ["blocks", "block", "thing"] spIsUp) {f__is_listing : Addr} {fd__is_listing : FuncData} (C__is_listing : Cal K mg "_is_listing" f__is_listing fd__is_listing ["place", "block", "thing"]) (G__is_listing : FnOk P w K mg base CX0 1 f__is_listing fd__is_listing ["place", "block", "thing"] spIsLst) : FnOk P w K mg base CX0 3 f fd ["self", "blocks", "ups", "lists"] (spWords Z) := by
  refine F.ok sc_Words___init__ (fun vs H Q E h => ?_) (fun cdv A outer s H vs Q E hr h => ?_)
  · obtain ⟨x, dx, tu, tl, n, us, ls, as, rfl, _⟩ := h
    rfl
  · obtain ⟨x, dx, tu, tl, n, us, ls, as, rfl, hx, hu, hl, hw, ok, q⟩ := h
    refine ⟨_, (pss_cons (ps_if (pt_not (pt_val (pe_call G_is_within (hr.mono (by first | decide | omega)) (by rfl) C_is_within.g C_is_within.k C_is_within.b .nil pass0 (pa_cons pe_int (pa_cons (pe_glob (v := .int (40)) rfl B.c_MOST_BLOCKS ⟨_, rfl⟩) (pa_cons (pv 1) pa_nil)))))) (pss_one ps_never) pss_nil)
 (pss_cons (ps_if (pt_not (pt_val (pe_call G__is_tuple_of (hr.mono (by first | decide | omega)) (by rfl) C__is_tuple_of.g C__is_tuple_of.k C__is_tuple_of.b .nil pass0 (pa_cons (pv 1) (pa_cons (pv 2) pa_nil))))) (pss_one ps_never) pss_nil)
 (pss_cons (ps_for PassesOwn.never rfl (pi_range2 rfl B.b_range (pa_cons pe_int (pa_cons (pe_op op_add (pv 1) pe_int) pa_nil))) (pg_name (i := 4) sc_Words___init__.nd rfl (Or.inl rfl)) (pss_one (ps_if (pt_not (pt_val (pe_call G__is_up (hr.mono (by first | decide | omega)) (by rfl) C__is_up.g C__is_up.k C__is_up.b .nil pass0 (pa_cons (pv 1) (pa_cons (pv 4) (pa_cons (pe_ix (ix_tupK (K := K) rfl) (pv 2) (pe_op op_sub (pv 4) pe_int) (fun _ _ => rfl)) pa_nil)))))) (pss_one ps_never) pss_nil)))
 (pss_cons (ps_if (pt_not (pt_val (pe_call G__is_tuple_of (hr.mono (by first | decide | omega)) (by rfl) C__is_tuple_of.g C__is_tuple_of.k C__is_tuple_of.b .nil pass0 (pa_cons (pe_op op_add (pv 1) pe_int) (pa_cons (pv 3) pa_nil))))) (pss_one ps_never) pss_nil)
 (pss_cons (ps_for PassesOwn.never rfl (pi_range1 rfl B.b_range (pa_cons (pe_op op_add (pv 1) pe_int) pa_nil)) (pg_name (i := 5) sc_Words___init__.nd rfl (Or.inl rfl)) (pss_one (ps_if (pt_not (pt_val (pe_call G__is_tuple_of (hr.mono (by first | decide | omega)) (by rfl) C__is_tuple_of.g C__is_tuple_of.k C__is_tuple_of.b .nil pass0 (pa_cons (pv 1) (pa_cons (pe_ix (ix_tupK (K := K) rfl) (pv 3) (pv 5) (fun _ _ => rfl)) pa_nil))))) (pss_one ps_never) pss_nil)))
 (pss_cons (ps_for PassesOwn.never rfl (pi_range1 rfl B.b_range (pa_cons (pe_op op_add (pv 1) pe_int) pa_nil)) (pg_name (i := 5) sc_Words___init__.nd rfl (Or.inl rfl)) (pss_one (ps_for PassesOwn.never rfl (pi_range2 rfl B.b_range (pa_cons pe_int (pa_cons (pe_op op_add (pv 1) pe_int) pa_nil))) (pg_name (i := 4) sc_Words___init__.nd rfl (Or.inl rfl)) (pss_one (ps_if (pt_not (pt_val (pe_call G__is_listing (hr.mono (by first | decide | omega)) (by rfl) C__is_listing.g C__is_listing.k C__is_listing.b .nil pass0 (pa_cons (pv 5) (pa_cons (pv 4) (pa_cons (pe_ix (ix_tupK (K := K) rfl) (pe_ix (ix_tupK (K := K) rfl) (pv 3) (pv 5) (fun _ _ => rfl)) (pe_op op_sub (pv 4) pe_int) (fun _ _ => rfl)) pa_nil)))))) (pss_one ps_never) pss_nil)))))
 (pss_cons (ps_fld (pv 0) (pv 1) rfl)
 (pss_cons (ps_fld (pv 0) (pv 2) rfl)
 (pss_one (ps_fld (pv 0) (pv 3) rfl)))))))))), ?_⟩
    have n1 := ok.n1
    have n2 := ok.n2
    have uln := ok.ul
    have lln := ok.ll
    have asn : as.length = n + 1 := by rw [hw.len, lln]
    walk_at "h0"
    refine ⟨_, _, _, rfl, True.intro, ?_⟩
    rw [show numV 1 40 (.int (n : Nat)) = true from num_nat (n := 40) (by omega) (by omega)]
    walk_at "hs"
    refine ⟨_, tu, _, rfl, hu, by rw [upvs_length, uln], ?_⟩
    walk_at "hs"
    refine ⟨1, (n : Int) + 1, rfl, ⟨by omega, by omega, by omega, by omega⟩, ?_⟩
    refine lp_range (lo := 1) (n := Int.toNat ((n : Int) + 1 - 1)) (fun i σ' H' => (∃ x4 x5, σ' = [some (.ref x), some (.int n), some (.ref tu), some (.ref tl), x4, x5]) ∧ H' = H)
      ⟨⟨_, _, rfl⟩, rfl⟩ ?_ ?_
    · rintro i σ' H' hi ⟨⟨x4, x5, rfl⟩, rfl⟩
      have hi' : i < us.length := by omega
      have ha := at_pred (upvs_get (List.getElem?_eq_getElem hi'))
      have ht : SqT K H' tu (upvs us) := .of hu
      walk_at "hs"
      refine ⟨n, _, _, rfl, fun k hk => ?_, ?_⟩
      · have := ok.uo i k (by rw [List.getElem?_eq_getElem hi', hk])
        exact ⟨this.1, fun e => this.2 (by omega)⟩
      walk_at "hs"
      exact ⟨⟨_, _, rfl⟩, rfl⟩
    rintro σ' H' ⟨⟨x4, x5, rfl⟩, rfl⟩
    walk_at "hs"
    refine ⟨_, tl, _, rfl, hl, by rw [refs_length, asn]; rfl, ?_⟩
    walk_at "hs"
    refine ⟨(n : Int) + 1, rfl, by omega, by omega, ?_⟩
    have tt : SqT K H' tl (refs as) := .of hl
    have row : ∀ i : Nat, i < n + 1 → ∃ a, ∃ h : i < ls.length, atI (refs as) (0 + (i : Int)) = some (.ref a) ∧ H' a = some (.tup (wds ls[i])) := fun i hi => by
      obtain ⟨a, ha, he⟩ := hw.get (i := i) (by omega)
      refine ⟨a, by omega, ?_, he⟩
      rw [Int.zero_add]
      exact atI_nat (refs_get ha)
    refine lp_range (lo := 0) (n := Int.toNat ((n : Int) + 1)) (fun i σ' H2 => (∃ x4 x5, σ' = [some (.ref x), some (.int n), some (.ref tu), some (.ref tl), x4, x5]) ∧ H2 = H')
      ⟨⟨_, _, rfl⟩, rfl⟩ ?_ ?_
    · rintro i σ' H2 hi ⟨⟨x4, x5, rfl⟩, rfl⟩
      obtain ⟨a, hil, ha, he⟩ := row i (by omega)
      walk_at "hs"
      refine ⟨_, a, _, rfl, he, by rw [wds_length, ok.rl _ (List.getElem_mem hil)], ?_⟩
      walk_at "hs"
      exact ⟨⟨_, _, rfl⟩, rfl⟩
    rintro σ' H2 ⟨⟨x4, x5, rfl⟩, rfl⟩
    walk_at "hs"
    refine ⟨(n : Int) + 1, rfl, by omega, by omega, ?_⟩
    refine lp_range (lo := 0) (n := Int.toNat ((n : Int) + 1)) (fun i σ' H3 => (∃ x4 x5, σ' = [some (.ref x), some (.int n), some (.ref tu), some (.ref tl), x4, x5]) ∧ H3 = H2)
      ⟨⟨_, _, rfl⟩, rfl⟩ ?_ ?_
    · rintro i σ' H3 hi ⟨⟨x4, x5, rfl⟩, rfl⟩
      obtain ⟨a, hil, ha, he⟩ := row i (by omega)
      have rln := ok.rl _ (List.getElem_mem hil)
      walk_at "hs"
      refine ⟨1, (n : Int) + 1, rfl, ⟨by omega, by omega, by omega, by omega⟩, ?_⟩
      refine lp_range (lo := 1) (n := Int.toNat ((n : Int) + 1 - 1)) (fun j σ' H4 => (∃ x4, σ' = [some (.ref x), some (.int n), some (.ref tu), some (.ref tl), x4, some (.int (0 + (i : Int)))]) ∧ H4 = H3)
        ⟨⟨_, rfl⟩, rfl⟩ ?_ ?_
      · rintro j σ' H4 hj ⟨⟨x4, rfl⟩, rfl⟩
        have hjl : j < ls[i].length := by omega
        have hb := at_pred (wds_get (List.getElem?_eq_getElem hjl))
        have ht : SqT K H4 a (wds ls[i]) := .of he
        walk_at "hs"
        refine ⟨_, _, _, rfl, fun e => ?_, ?_⟩
        · have := ok.dg i ls[i] (List.getElem?_eq_getElem hil) (by omega)
          rw [show i - 1 = j by omega, List.getElem?_eq_getElem hjl] at this
          exact Option.some.inj this
        walk_at "hs"
        exact ⟨⟨_, rfl⟩, rfl⟩
      · rintro σ' H4 ⟨⟨x4, rfl⟩, rfl⟩
        exact ⟨⟨_, _, rfl⟩, rfl⟩
    rintro σ' H3 ⟨⟨x4, x5, rfl⟩, rfl⟩
    walk_at "hs"
    refine ⟨x, _, dx, _, rfl, hx, W.c, W.nb, by decide, ?_⟩
    walk_at "hs"
    refine ⟨x, _, dx, _, rfl, upd_same, W.c, W.nu, Nat.lt_of_le_of_lt (putF_len ..) (by decide), ?_⟩
    walk_at "hs"
    refine ⟨x, _, dx, _, rfl, upd_same, W.c, W.nl, Nat.lt_of_le_of_lt (putF_len ..) (Nat.lt_of_le_of_lt (Nat.succ_le_succ (putF_len ..)) (by decide)), ?_⟩
    walk_at "hs"
    have nu : tu ≠ x := fun e => by
      rw [e, hx] at hu
      cases hu
    have nl : tl ≠ x := fun e => by
      rw [e, hx] at hl
      cases hl
    refine q _ (((But.refl x H3).mut).mut.mut) ⟨dx, _, tu, tl, as, upd_same, rfl, rfl, rfl, keepM nu (keepM nu (keepM nu hu)), keepM nl (keepM nl (keepM nl hl)), ?_⟩
    exact hw.but (((But.refl x H3).mut).mut.mut) fun xs e => by
      rw [hx] at e
      cases e
end
set_option maxRecDepth 100000
set_option maxHeartbeats 2000000
open PySem PySem.Spec L2


local macro_rules | `(tactic| walk_at "h1") => `(tactic| first
  | with_reducible refine x_dget ?_
  | with_reducible refine x_dc ?_
  | with_reducible refine x_keysF ?_
  | with_reducible refine x_keysFT ?_)

theorem sc__ties_of : FnScope ["hung", "block", "place"] ["hung"] (defScope s__ties_of) := ⟨rfl, rfl, rfl, by decide +kernel, rfl, by decide +kernel, by decide +kernel⟩
theorem sc_had : FnScope ["history", "ties", "block", "place"] ["history"] (defScope s_had) := ⟨rfl, rfl, rfl, by decide +kernel, rfl, by decide +kernel, by decide +kernel⟩
def LsAt (H : Hp) (as : List Addr) (ls : List (List Nat)) : Prop := as.length = ls.length ∧ ∀ (i : Nat) (a : Addr) (l : List Nat), as[i]? = some a → ls[i]? = some l → H a = some (.lst (nats l))
theorem LsAt.same {H H' : Hp} {as : List Addr} {ls : List (List Nat)} (s : Same H H') (h : LsAt H as ls) : LsAt H' as ls := ⟨h.1, fun i a l ha hl => s _ _ (h.2 i a l ha hl)⟩
theorem LsAt.but {H H' : Hp} {d : Addr} {as : List Addr} {ls : List (List Nat)} (b : But d H H') (n : ∀ xs, H d ≠ some (.lst xs)) (h : LsAt H as ls) : LsAt H' as ls := ⟨h.1, fun i a l ha hl => b _ _ (fun z => n _ (z ▸ h.2 i a l ha hl)) (h.2 i a l ha hl)⟩
theorem LsAt.get {H : Hp} {as : List Addr} {ls : List (List Nat)} (h : LsAt H as ls) {i : Nat} (hi : i < ls.length) : ∃ a, as[i]? = some a ∧ H a = some (.lst (nats ls[i])) := by
  have h1 : i < as.length := by rw [h.1]; exact hi
  exact ⟨as[i], List.getElem?_eq_getElem h1, h.2 i _ _ (List.getElem?_eq_getElem h1) (List.getElem?_eq_getElem hi)⟩
theorem LsAt.snoc {H : Hp} {as : List Addr} {ls : List (List Nat)} {a : Addr} {l : List Nat} (h : LsAt H as ls) (ha : H a = some (.lst (nats l))) : LsAt H (as ++ [a]) (ls ++ [l]) := by
  refine ⟨by rw [List.length_append, List.length_append, h.1]; rfl, fun i b m hb hm => ?_⟩
  rw [List.getElem?_append] at hb hm
  rw [h.1] at hb
  split at hb
  · rename_i c
    rw [if_pos c] at hm
    exact h.2 i b m hb hm
  · rename_i c
    rw [if_neg c] at hm
    cases e : i - ls.length with
    | zero =>
      rw [e] at hb hm
      cases hb
      cases hm
      exact ha
    | succ j =>
      rw [e] at hb
      cases hb
def TiesAt (H0 H : Hp) (D : Addr) (ls : List (List Nat)) : Prop := ∃ as : List Addr, as.Nodup ∧ (∀ a ∈ as, H0 a = none) ∧ H D = some (.dK (kdl 1 (refs as))) ∧ LsAt H as ls
def TlAt (H : Hp) (as : List Addr) (ls : List (List Nat)) : Prop := as.length = ls.length ∧ ∀ (i : Nat) (a : Addr) (l : List Nat), as[i]? = some a → ls[i]? = some l → H a = some (.tup (nats l))
theorem TlAt.same {H H' : Hp} {as : List Addr} {ls : List (List Nat)} (s : Same H H') (h : TlAt H as ls) : TlAt H' as ls := ⟨h.1, fun i a l ha hl => s _ _ (h.2 i a l ha hl)⟩
theorem TlAt.but {H H' : Hp} {d : Addr} {as : List Addr} {ls : List (List Nat)} (b : But d H H') (n : ∀ xs, H d ≠ some (.tup xs)) (h : TlAt H as ls) : TlAt H' as ls := ⟨h.1, fun i a l ha hl => b _ _ (fun z => n _ (z ▸ h.2 i a l ha hl)) (h.2 i a l ha hl)⟩
theorem TlAt.get {H : Hp} {as : List Addr} {ls : List (List Nat)} (h : TlAt H as ls) {i : Nat} (hi : i < ls.length) : ∃ a, as[i]? = some a ∧ H a = some (.tup (nats ls[i])) := by
  have h1 : i < as.length := by rw [h.1]; exact hi
  exact ⟨as[i], List.getElem?_eq_getElem h1, h.2 i _ _ (List.getElem?_eq_getElem h1) (List.getElem?_eq_getElem hi)⟩
theorem TlAt.snoc {H : Hp} {as : List Addr} {ls : List (List Nat)} {a : Addr} {l : List Nat} (h : TlAt H as ls) (ha : H a = some (.tup (nats l))) : TlAt H (as ++ [a]) (ls ++ [l]) := by
  refine ⟨by rw [List.length_append, List.length_append, h.1]; rfl, fun i b m hb hm => ?_⟩
  rw [List.getElem?_append] at hb hm
  rw [h.1] at hb
  split at hb
  · rename_i c
    rw [if_pos c] at hm
    exact h.2 i b m hb hm
  · rename_i c
    rw [if_neg c] at hm
    cases e : i - ls.length with
    | zero =>
      rw [e] at hb hm
      cases hb
      cases hm
      exact ha
    | succ j =>
      rw [e] at hb
      cases hb
def KnownAt (H : Hp) (D : Addr) (ks : List (List Nat)) : Prop := ∃ as : List Addr, H D = some (.dK (kdl 1 (refs as))) ∧ TlAt H as ks
theorem KnownAt.same {H H' : Hp} {D : Addr} {ks : List (List Nat)} (s : Same H H') (h : KnownAt H D ks) : KnownAt H' D ks := by
  obtain ⟨as, h1, h2⟩ := h
  exact ⟨as, s _ _ h1, h2.same s⟩
theorem KnownAt.but {H H' : Hp} {D p : Addr} {ks : List (List Nat)} (b : But p H H') (n : ∀ xs, H p ≠ some (.tup xs)) (ne : D ≠ p) (h : KnownAt H D ks) : KnownAt H' D ks := by
  obtain ⟨as, h1, h2⟩ := h
  exact ⟨as, b _ _ ne h1, h2.but b n⟩
theorem refs_snoc (as : List Addr) (a : Addr) : refs as ++ [V.ref a] = refs (as ++ [a]) := by
  rw [refs_app]
  rfl
section
variable {P : Program} {w : World} {K : PySem.W.Frag} {mg : Str → Option Value} {base : Heap} {Z : Ad}
def spTies : Sp := fun vs H Q _ => ∃ (t : Addr) (hs : List Nat), vs = [.ref t] ∧ H t = some (.tup (nats hs)) ∧ hs.length ≤ 40 ∧ ∀ D H', Same H H' → H D = none → TiesAt H H' D (hs.map fun p => [p]) → Q (.ref D) H'
theorem ok_ties {f : Addr} {fd : FuncData} (F : Fun K "_ties_of" "_ties_of" s__ties_of f fd) (B : Bl Z mg) : FnOk P w K mg base CX0 1 f fd ["hung"] spTies := by
  refine F.ok sc__ties_of (fun vs H Q E h => ?_) (fun cdv A outer s H vs Q E hr h => ?_)
  · obtain ⟨t, hs, rfl, _⟩ := h
    rfl
  · obtain ⟨t, hs, rfl, ht, h40, q⟩ := h
    refine ⟨_, (pss_one (ps_ret (pe_dc (own := [("block", 1), ("place", 2)]) rfl sc__ties_of.nd (pi_enumTK (K := K) rfl rfl (by rfl) B.b_enumerate (by decide) (by decide) (pa_cons (pv 0) pa_nil)) (blkOk_by (N := ["hung", "block", "place"]) (sc := defScope s__ties_of) (by decide +kernel)) (fun _ _ _ _ _ => (pg_tupK (K := K) (n := 2) rfl rfl (pgs_cons (pg_name (i := 1) sc__ties_of.nd rfl (Or.inl rfl)) (pgs_cons (pg_name (i := 2) sc__ties_of.nd rfl (Or.inl rfl)) pgs_nil)))) (fun _ _ _ _ _ => pts_nil) (fun _ _ _ _ _ => (pv 1)) (fun _ _ _ _ _ => (pe_lst (pa_cons (pv 2) pa_nil)))))), ?_⟩
    walk_at "h0"
    refine ⟨t, nats hs, rfl, .of ht, fun D hD => ?_⟩
    refine dc_it (walk_enumT (K := K) (t := t) (k := 1) (xs := nats hs)) (fun i G => Same H G ∧ ∃ as : List Addr, as.length = i ∧ as.Nodup ∧ (∀ a ∈ as, G a ≠ none) ∧ (∀ a ∈ as, H a = none) ∧ G D = some (.dK (kdl 1 (refs as))) ∧ LsAt G as ((hs.take i).map fun p => [p]))
      ⟨same_new (Same.refl _) hD, [], rfl, .nil, (fun a h => nomatch h), (fun a h => nomatch h), upd_same, rfl, fun i a l ha => nomatch ha⟩ (fun i G _ h => .of (h.1 _ _ ht)) ?_ ?_
    · rintro i x G G' hi ⟨s1, as, la, nd, al, fr, eD, ls⟩ ⟨T, x1, x2, rfl, nT, rfl, e1, e2⟩
      cases e1
      rw [nats_length] at hi
      obtain rfl : V.int (hs[i] : Nat) = x2 := Option.some.inj ((nats_get (List.getElem?_eq_getElem hi)).symm.trans e2)
      have s2 : Same G (upd G T (.tup [.int (1 + (i : Nat)), .int (hs[i] : Nat)])) := same_new (Same.refl _) nT
      have eT : upd G T (.tup [.int (1 + (i : Nat)), .int (hs[i] : Nat)]) T = some (.tup [.int (1 + (i : Nat)), .int (hs[i] : Nat)]) := upd_same
      generalize upd G T (.tup [.int (1 + (i : Nat)), .int (hs[i] : Nat)]) = G1 at s2 eT ⊢
      walk_at "hs"
      refine ⟨rfl, ?_⟩
      walk_at "hs"
      intro a na
      have s3 : Same G1 (upd G1 a (.lst [.int (hs[i] : Nat)])) := same_new (Same.refl _) na
      have ea : upd G1 a (.lst [.int (hs[i] : Nat)]) a = some (.lst [.int (hs[i] : Nat)]) := upd_same
      generalize upd G1 a (.lst [.int (hs[i] : Nat)]) = G2 at s3 ea ⊢
      walk_at "hs"
      have s13 := (s1.trans s2).trans s3
      have s23 := s2.trans s3
      have eD2 := s23 _ _ eD
      have b2 : But D G2 (upd G2 D (.dK (putK (kdl 1 (refs as)) (Sum.inl (1 + (i : Nat))) (.ref a)))) := But.mut (But.refl _ _)
      have nl : ∀ xs, G2 D ≠ some (.lst xs) := fun xs z => by rw [eD2] at z; cases z
      have nDa : a ≠ D := fun z => by rw [z, eD2] at ea; cases ea
      refine ⟨_, Sum.inl (1 + (i : Nat)), rfl, eD2, szLt (by rw [kdl_len, refs_length]; omega), same_mut s13 hD, as ++ [a], by rw [List.length_append, la]; rfl, L2.nd_snoc nd (fun m => al a m (s2.free na)), fun b hb => ?_, fun b hb => ?_, ?_, ?_⟩
      · by_cases z : b = D
        · rw [z, upd_same]
          exact nofun
        · rw [upd_ne z]
          rcases List.mem_append.mp hb with hb | hb
          · intro e
            exact al b hb (s23.free e)
          · rw [List.mem_singleton.mp hb, ea]
            exact nofun
      · rcases List.mem_append.mp hb with hb | hb
        · exact fr b hb
        · rw [List.mem_singleton.mp hb]
          exact s1.free (s2.free na)
      · rw [upd_same, kdl_snoc (by rw [refs_length, la]; omega), refs_snoc]
      · rw [List.take_add_one, List.getElem?_eq_getElem hi, List.map_append]
        exact ((ls.same s23).but b2 nl).snoc (l := [hs[i]]) (b2 _ _ nDa ea)
    · rintro G ⟨s1, as, la, nd, al, fr, eD, ls⟩
      rw [nats_length, List.take_length] at ls
      exact q D G s1 hD ⟨as, nd, fr, eD, ls⟩
theorem ints_nats (l : List Nat) : (intsN l).map V.int = nats l := by
  unfold intsN nats
  rw [List.map_map]
  rfl
theorem LsAt.put {H : Hp} {as : List Addr} {ls : List (List Nat)} {i : Nat} {a : Addr} {l : List Nat} (h : LsAt H as ls) (nd : as.Nodup) (ha : as[i]? = some a) : LsAt (upd H a (.lst (nats l))) as (ls.set i l) := by
  refine ⟨by rw [List.length_set]; exact h.1, fun j b m hb hm => ?_⟩
  rw [List.getElem?_set] at hm
  by_cases c : i = j
  · subst c
    rw [ha] at hb
    cases hb
    rw [if_pos rfl] at hm
    split at hm
    · cases hm
      exact upd_same
    · cases hm
  · rw [if_neg c] at hm
    have ne : b ≠ a := fun z => by
      subst z
      obtain ⟨h1, e1⟩ := List.getElem?_eq_some_iff.mp ha
      obtain ⟨h2, e2⟩ := List.getElem?_eq_some_iff.mp hb
      have pw := List.pairwise_iff_getElem.mp nd
      rcases Nat.lt_or_gt_of_ne c with lt | lt
      · exact pw i j h1 h2 lt (e1.trans e2.symm)
      · exact pw j i h2 h1 lt (e2.trans e1.symm)
    rw [upd_ne ne]
    exact h.2 j b m hb hm
def MvOk (n : Nat) (ms : List (Nat × Nat)) : Prop := ∀ m ∈ ms, 1 ≤ m.1 ∧ m.1 ≤ n ∧ m.2 ≤ n ∧ m.2 ≠ m.1
def HgOk (hs : List Nat) : Prop := ∀ i p, hs[i]? = some p → p ≤ hs.length ∧ p ≠ i + 1
def spHad (Z : Ad) : Sp := fun vs H Q _ => ∃ (x : Addr) (hs : List Nat) (ms : List (Nat × Nat)), vs = [.ref x] ∧ HistAt Z H x hs ms ∧ hs.length ≤ 40 ∧ ms.length ≤ 50 ∧ HgOk hs ∧ MvOk hs.length ms ∧ ∀ D H', Same H H' → H D = none → KnownAt H' D (hadLs hs ms) → Q (.ref D) H'
theorem ok_had {f : Addr} {fd : FuncData} (F : Fun K "had" "had" s_had f fd) (B : Bl Z mg) (HC : HisC K Z) (T : Cls K Z.a_Tree) (N : NoAttr K Z.a_Tree "hung") {f__ties_of : Addr} {fd__ties_of : FuncData} (C__ties_of : Cal K mg "_ties_of" f__ties_of fd__ties_of ["hung"]) (G__ties_of : FnOk P w K mg base CX0 1 f__ties_of fd__ties_of ["hung"] spTies) : FnOk P w K mg base CX0 2 f fd ["history"] (spHad Z) := by
  refine F.ok sc_had (fun vs H Q E h => ?_) (fun cdv A outer s H vs Q E hr h => ?_)
  · obtain ⟨x, hs, ms, rfl, _⟩ := h
    rfl
  · obtain ⟨x, hs, ms, rfl, ⟨dh, t, u, vs, h1, ⟨dt, tt, h2, h2'⟩, h3, h4⟩, h40, h50, hg, mo, q⟩ := h
    refine ⟨_, (pss_cons (ps_set (i := 1) sc_had.nd rfl (Or.inr rfl) (pe_call G__ties_of (hr.mono (by first | decide | omega)) (by rfl) C__ties_of.g C__ties_of.k C__ties_of.b .nil pass0 (pa_cons (pe_fldK (K := K) rfl (pe_fldK (K := K) rfl (pv 0) rfl) rfl) pa_nil)))
 (pss_cons (ps_for PassesOwn.never rfl (pi_tup (pe_fldK (K := K) rfl (pv 0) rfl)) (pg_tup rfl (pgs_cons (pg_name (i := 2) sc_had.nd rfl (Or.inl rfl)) (pgs_cons (pg_name (i := 3) sc_had.nd rfl (Or.inl rfl)) pgs_nil))) (pss_one (ps_expr (pe_bmK (K := K) rfl PySem.F.plainAttrs_list PySem.F.slot_list_append PySem.F.type_list_append mt_append (pe_dget (units1 hr) (pv 1) (pv 2) (fun _ _ => rfl)) (pa_cons (pv 3) pa_nil)))))
 (pss_one (ps_ret (pe_dc (own := [("block", 2)]) rfl sc_had.nd (pi_keysF (pv 1)) (blkOk_by (N := ["history", "ties", "block", "place"]) (sc := defScope s_had) (by decide +kernel)) (fun _ _ _ _ _ => (pg_name (i := 2) sc_had.nd rfl (Or.inl rfl))) (fun _ _ _ _ _ => pts_nil) (fun _ _ _ _ _ => (pv 2)) (fun _ _ _ _ _ => (pe_callTy (call_tplK (K := K) rfl) (by rfl) B.b_tuple (by decide +kernel) (pa_cons (pe_callB (cr_sortedSetW (w := w) rfl rfl) (by rfl) B.b_sorted (by decide +kernel) (pa_cons (pe_callTy (cr_setLiK (K := K) (w := w) rfl rfl rfl) (by rfl) B.b_set (by decide +kernel) (pa_cons (pe_dget (units1 hr) (pv 1) (pv 2) (fun _ _ => rfl)) pa_nil)) pa_nil)) pa_nil)))))))), ?_⟩
    walk_at "h0"
    refine ⟨x, _, dh, _, _, rfl, h1, HC.c, HC.nt, rfl, ?_⟩
    walk_at "hs"
    refine ⟨t, _, dt, _, _, rfl, h2, T, N, rfl, ?_⟩
    walk_at "hs"
    refine ⟨tt, hs, rfl, h2', h40, fun D H1 s1 nD ta => ?_⟩
    walk_at "hs"
    refine ⟨x, _, dh, _, _, rfl, s1 _ _ h1, HC.c, HC.nm, rfl, ?_⟩
    refine ⟨u, rfl, ⟨_, SqT.of (s1 _ _ h3)⟩, ?_⟩
    refine lp_tup (K := K) (xs := vs) (fun i σ' H' => (∃ x2 x3, σ' = [some (.ref x), some (.ref D), x2, x3]) ∧ Same H H' ∧ TiesAt H H' D (tiesL hs (ms.take i)))
      ⟨⟨_, _, rfl⟩, s1, ta⟩ (fun i σ' H' _ h => .of (h.2.1 _ _ h3)) ?_ ?_
    · rintro i v σ' H' hv ⟨⟨x2, x3, rfl⟩, s2, as, nd, fr, eD, ls⟩
      obtain ⟨y, hy, py⟩ := h4.at hv
      obtain ⟨a, rfl, ha⟩ := py.same s2
      have sa : SqT K H' a [.int (y.1 : Nat), .int (y.2 : Nat)] := .of ha
      obtain ⟨k1, k2, k3, k4⟩ := mo y (List.mem_of_getElem? hy)
      have tl : (tiesL hs (ms.take i)).length = hs.length := tiesL_len ..
      have hi : y.1 - 1 < (tiesL hs (ms.take i)).length := by rw [tl]; omega
      obtain ⟨b, hb, eb⟩ := ls.get hi
      have sb : SqL K H' b (nats (tiesL hs (ms.take i))[y.1 - 1]) := .of eb
      have to := tieOk_all hg (fun m hm => ⟨(mo m hm).1, (mo m hm).2.2.1, (mo m hm).2.2.2⟩) i (by have := (List.getElem?_eq_some_iff.mp hy).1; omega) _ _ (List.getElem?_eq_getElem hi)
      have lt : i < ms.length := (List.getElem?_eq_some_iff.mp hy).1
      walk_at "hs"
      refine ⟨D, _, rfl, dgetN (.inl eD) (refs_get hb) (by omega), ?_⟩
      walk_at "hs"
      refine ⟨b, _, _, rfl, rfl, eb, szLt (by rw [nats_length]; omega), ?_⟩
      rw [tiesL_take hy]
      have nb : D ≠ b := fun z => by rw [← z, eD] at eb; cases eb
      have frb := fr b (List.mem_of_getElem? hb)
      refine ⟨⟨_, _, rfl⟩, same_mut s2 frb, as, nd, fr, ?_, ?_⟩
      · rw [upd_ne nb]
        exact eD
      · have e : nats (tiesL hs (ms.take i))[y.1 - 1] ++ [V.int (y.2 : Nat)] = nats ((tiesL hs (ms.take i)).getD (y.1 - 1) [] ++ [y.2]) := by
          rw [List.getD_eq_getElem?_getD, List.getElem?_eq_getElem hi, Option.getD_some, nats_append]
          rfl
        rw [e]
        exact ls.put nd hb
    · rintro σ' H2 ⟨⟨x2, x3, rfl⟩, s2, as, nd, fr, eD, ls⟩
      have hml : ms.length = vs.length := h4.len.symm
      rw [← hml, List.take_length] at ls
      have tl : (tiesL hs ms).length = hs.length := tiesL_len ..
      have ok := tieOk_all hg (fun m hm => ⟨(mo m hm).1, (mo m hm).2.2.1, (mo m hm).2.2.2⟩) ms.length (Nat.le_refl _)
      rw [List.take_length] at ok
      walk_at "hs"
      refine ⟨D, _, rfl, eD, fun o D2 nD2 => ?_⟩
      have b3 : But D H2 (upd H2 D (.frz o (.dK (kdl 1 (refs as))))) := but_frz
      have eF : upd H2 D (.frz o (.dK (kdl 1 (refs as)))) D = some (.frz o (.dK (kdl 1 (refs as)))) := upd_same
      have s3 : Same H (upd H2 D (.frz o (.dK (kdl 1 (refs as))))) := same_mut s2 nD
      have ls3 := ls.but b3 (fun xs z => by rw [eD] at z; cases z)
      generalize upd H2 D (.frz o (.dK (kdl 1 (refs as)))) = H3 at b3 eF s3 ls3 nD2 ⊢
      refine dc_it (walk_keys (d := D) (o := o) (kvs := kdl 1 (refs as))) (fun i G => Same H3 G ∧ ∃ bs : List Addr, bs.length = i ∧ G D2 = some (.dK (kdl 1 (refs bs))) ∧ TlAt G bs (((tiesL hs ms).take i).map (hadL hs.length)))
        ⟨same_new (Same.refl _) nD2, [], rfl, upd_same, rfl, fun i a l ha => nomatch ha⟩ (fun i G _ h => h.1 _ _ eF) ?_ ?_
      · rintro i x4 G G' hi ⟨s4, bs, lb, eB, ts⟩ ⟨rfl, k, v, ek, rfl⟩
        obtain ⟨rfl, ev⟩ := kdl_at ek
        rw [kdl_len, refs_length, ls.1] at hi
        have hi3 : i < (tiesL hs ms).length := hi
        obtain ⟨b, hb, eb⟩ := (ls3.same s4).get hi3
        obtain ⟨l1, l2, l3⟩ := ok i _ (List.getElem?_eq_getElem hi3)
        walk_at "hs"
        refine ⟨rfl, ?_⟩
        walk_at "hs"
        refine ⟨D, _, rfl, dgetN (.inr ⟨o, s4 _ _ eF⟩) (refs_get hb) rfl, ?_⟩
        walk_at "hs"
        refine ⟨b, intsN (tiesL hs ms)[i], rfl, by rw [ints_nats]; exact .of eb, by rw [intsN_len]; omega, fun S c nS hc => ?_⟩
        rw [intsN_len] at hc
        walk_at "hs"
        refine ⟨S, _, c, rfl, upd_same, by omega, fun ns L asc mem ln nL => ?_⟩
        obtain rfl := hadL_only (fun p hp => (l3 p hp).1) asc mem
        rw [ints_nats]
        walk_at "hs"
        intro T nT
        have s5 := (((same_new (Same.refl _) nS).trans (same_new (Same.refl _) nL)).trans (same_new (Same.refl _) nT) : Same G' (upd (upd (upd G' S (SetO w S (fun j => decide (j ∈ intsN (tiesL hs ms)[i])) c)) L (HO.lst (nats (hadL hs.length (tiesL hs ms)[i])))) T (HO.tup (nats (hadL hs.length (tiesL hs ms)[i])))))
        have eT := upd_same (H := upd (upd G' S (SetO w S (fun j => decide (j ∈ intsN (tiesL hs ms)[i])) c)) L (HO.lst (nats (hadL hs.length (tiesL hs ms)[i])))) (a := T) (o := HO.tup (nats (hadL hs.length (tiesL hs ms)[i])))
        generalize upd (upd (upd G' S (SetO w S (fun j => decide (j ∈ intsN (tiesL hs ms)[i])) c)) L (HO.lst (nats (hadL hs.length (tiesL hs ms)[i])))) T (HO.tup (nats (hadL hs.length (tiesL hs ms)[i]))) = G5 at s5 eT ⊢
        have eB5 := s5 _ _ eB
        have b6 : But D2 G5 (upd G5 D2 (.dK (putK (kdl 1 (refs bs)) (Sum.inl ((1 + i : Nat) : Int)) (.ref T)))) := But.mut (But.refl _ _)
        have nt : ∀ xs, G5 D2 ≠ some (.tup xs) := fun xs z => by rw [eB5] at z; cases z
        have nTD : T ≠ D2 := fun z => by rw [z, eB5] at eT; cases eT
        refine ⟨_, Sum.inl ((1 + i : Nat) : Int), rfl, eB5, szLt (by rw [kdl_len, refs_length]; omega), same_mut (s4.trans s5) nD2, bs ++ [T], by rw [List.length_append, lb]; rfl, ?_, ?_⟩
        · rw [upd_same, kdl_snoc (by rw [refs_length, lb]), refs_snoc]
        · rw [List.take_add_one, List.getElem?_eq_getElem hi3, List.map_append]
          exact ((ts.same s5).but b6 nt).snoc (b6 _ _ nTD eT)
      · rintro G ⟨s4, bs, lb, eB, ts⟩
        rw [kdl_len, refs_length, ls.1, List.take_length] at ts
        exact q D2 G (s3.trans s4) (s3.free nD2) ⟨bs, eB, ts⟩
end
set_option maxRecDepth 100000
set_option maxHeartbeats 2000000
open PySem PySem.Spec L2


local macro_rules | `(tactic| walk_at "h1") => `(tactic| first
  | with_reducible refine x_dget ?_
  | with_reducible refine x_dc ?_
  | with_reducible refine x_keysF ?_
  | with_reducible refine x_keysFT ?_)

theorem sc__law_had : FnScope ["_law_hung", "_law_moves_here", "_law_found", "_law_block", "_law_place"] ["_law_hung", "_law_moves_here"] (defScope s__law_had) := ⟨rfl, rfl, rfl, by decide +kernel, rfl, by decide +kernel, by decide +kernel⟩
theorem paired_kdl {K : PySem.W.Frag} {H : Hp} : ∀ (k : Nat) (ps : List Addr) (xs : List V), ps.length = xs.length → (∀ (i : Nat) (p : Addr) (x : V), ps[i]? = some p → xs[i]? = some x → SqT K H p [.int ((k + i : Nat) : Int), x]) → Paired (fun p kv => SqT K H p [kV kv.1, kv.2]) ps (kdl k xs)
  | _, [], [], _, _ => .nil
  | _, [], _ :: _, h, _ => nomatch h
  | _, _ :: _, [], h, _ => nomatch h
  | k, p :: ps, x :: xs, h, q => .cons (q 0 p x rfl rfl) (paired_kdl (k + 1) ps xs (Nat.succ.inj h) fun i p' x' h1 h2 => by
      have := q (i + 1) p' x' h1 h2
      rw [show k + (i + 1) = k + 1 + i by omega] at this
      exact this)
def PsAt (H : Hp) (k : Nat) (ps as : List Addr) : Prop := ps.length = as.length ∧ ∀ (i : Nat) (p a : Addr), ps[i]? = some p → as[i]? = some a → H p = some (.tup [.int ((k + i : Nat) : Int), .ref a])
theorem PsAt.same {H H' : Hp} {k : Nat} {ps as : List Addr} (s : Same H H') (h : PsAt H k ps as) : PsAt H' k ps as := ⟨h.1, fun i p a h1 h2 => s _ _ (h.2 i p a h1 h2)⟩
theorem PsAt.but {H H' : Hp} {d : Addr} {k : Nat} {ps as : List Addr} (b : But d H H') (n : ∀ xs, H d ≠ some (.tup xs)) (h : PsAt H k ps as) : PsAt H' k ps as := ⟨h.1, fun i p a h1 h2 => b _ _ (fun z => n _ (z ▸ h.2 i p a h1 h2)) (h.2 i p a h1 h2)⟩
theorem get_snoc {α : Type} {l : List α} {x y : α} {i : Nat} (h : (l ++ [x])[i]? = some y) : l[i]? = some y ∨ (i = l.length ∧ y = x) := by
  rw [List.getElem?_append] at h
  split at h
  · exact .inl h
  · rename_i c
    refine .inr ?_
    cases e : i - l.length with
    | zero =>
      rw [e] at h
      cases h
      exact ⟨by omega, rfl⟩
    | succ j =>
      rw [e] at h
      cases h
theorem PsAt.snoc {H : Hp} {k : Nat} {ps as : List Addr} {p a : Addr} {n : Int} (h : PsAt H k ps as) (hn : n = ((k + ps.length : Nat) : Int)) (hp : H p = some (.tup [.int n, .ref a])) : PsAt H k (ps ++ [p]) (as ++ [a]) := by
  refine ⟨by rw [List.length_append, List.length_append, h.1]; rfl, fun i q b hq hb => ?_⟩
  rcases get_snoc hq with g | ⟨rfl, rfl⟩
  · rcases get_snoc hb with g2 | ⟨e, rfl⟩
    · exact h.2 i q b g g2
    · have := (List.getElem?_eq_some_iff.mp g).1
      rw [h.1] at this
      omega
  · rcases get_snoc hb with g2 | ⟨e, rfl⟩
    · have := (List.getElem?_eq_some_iff.mp g2).1
      rw [h.1] at this
      omega
    · rw [hp, hn]
theorem PsAt.dict {K : PySem.W.Frag} {H : Hp} {k : Nat} {ps as : List Addr} (h : PsAt H k ps as) : Paired (fun p kv => SqT K H p [kV kv.1, kv.2]) ps (kdl k (refs as)) := by
  refine paired_kdl k ps (refs as) (by rw [refs_length]; exact h.1) fun i p x h1 h2 => ?_
  have hi := (List.getElem?_eq_some_iff.mp h1).1
  rw [h.1] at hi
  have e := refs_get (List.getElem?_eq_getElem hi)
  rw [h2] at e
  cases e
  exact .of (h.2 i p _ h1 (List.getElem?_eq_getElem hi))
theorem refs_set (as : List Addr) (i : Nat) (a : Addr) : (refs as).set i (.ref a) = refs (as.set i a) := by
  unfold refs
  rw [List.map_set]
theorem LsAt.set {H : Hp} {as : List Addr} {ls : List (List Nat)} {i : Nat} {a : Addr} {l : List Nat} (h : LsAt H as ls) (ha : H a = some (.lst (nats l))) : LsAt H (as.set i a) (ls.set i l) := by
  refine ⟨by rw [List.length_set, List.length_set]; exact h.1, fun j b m hb hm => ?_⟩
  rw [List.getElem?_set] at hb hm
  by_cases c : i = j
  · subst c
    rw [if_pos rfl] at hb hm
    split at hb
    · split at hm
      · cases hb
        cases hm
        exact ha
      · cases hm
    · cases hb
  · rw [if_neg c] at hb hm
    exact h.2 j b m hb hm
theorem LsAt.butN {H H' : Hp} {d : Addr} {as : List Addr} {ls : List (List Nat)} (b : But d H H') (n : ∀ a ∈ as, a ≠ d) (h : LsAt H as ls) : LsAt H' as ls := ⟨h.1, fun i a l ha hl => b _ _ (n a (List.mem_of_getElem? ha)) (h.2 i a l ha hl)⟩
section
variable {P : Program} {w : World} {K : PySem.W.Frag} {mg : Str → Option Value} {base : Heap} {Z : Ad}
def spLHad : Sp := fun vs H Q _ => ∃ (t u : Addr) (hs : List Nat) (us : List V) (ms : List (Nat × Nat)), vs = [.ref t, .ref u] ∧ H t = some (.tup (nats hs)) ∧ H u = some (.tup us) ∧ PrsV H us ms ∧ hs.length ≤ 40 ∧ ms.length ≤ 50 ∧ HgOk hs ∧ MvOk hs.length ms ∧ ∀ D H', Same H H' → H D = none → KnownAt H' D (hadLs hs ms) → Q (.ref D) H'
theorem ok_lhad {f : Addr} {fd : FuncData} (F : Fun K "_law_had" "_law_had" s__law_had f fd) (B : Bl Z mg) : FnOk P w K mg base CX0 1 f fd ["_law_hung", "_law_moves_here"] spLHad := by
  refine F.ok sc__law_had (fun vs H Q E h => ?_) (fun cdv A outer s H vs Q E hr h => ?_)
  · obtain ⟨t, u, hs, us, ms, rfl, _⟩ := h
    rfl
  · obtain ⟨t, u, hs, us, ms, rfl, ht, hu, h4, h40, h50, hg, mo, q⟩ := h
    refine ⟨_, (pss_cons (ps_set (i := 2) sc__law_had.nd rfl (Or.inr rfl) (pe_callTy (call_dictPK (K := K) rfl rfl) (by rfl) B.b_dict (by decide +kernel) (pa_cons (pe_lc (own := [("_law_block", 3)]) rfl sc__law_had.nd (pi_range2 rfl B.b_range (pa_cons pe_int (pa_cons (pe_op op_add (pe_callB (call_lenK (K := K) rfl) (by rfl) B.b_len PySem.boot_len (pa_cons (pv 0) pa_nil)) pe_int) pa_nil))) (blkOk_by (N := ["_law_hung", "_law_moves_here", "_law_found", "_law_block", "_law_place"]) (sc := defScope s__law_had) (by decide +kernel)) (fun _ _ _ _ _ => (pg_name (i := 3) sc__law_had.nd rfl (Or.inl rfl))) (fun _ _ _ _ _ => pts_nil) (fun _ _ _ _ _ => (pe_tup (pa_cons (pv 3) (pa_cons (pe_lst (pa_cons (pe_ix (ix_tupK (K := K) rfl) (pv 0) (pe_op op_sub (pv 3) pe_int) (fun _ _ => rfl)) pa_nil)) pa_nil))))) pa_nil)))
 (pss_cons (ps_for PassesOwn.never rfl (pi_tup (pv 1)) (pg_tup rfl (pgs_cons (pg_name (i := 3) sc__law_had.nd rfl (Or.inl rfl)) (pgs_cons (pg_name (i := 4) sc__law_had.nd rfl (Or.inl rfl)) pgs_nil))) (pss_one (ps_asg (pe_op op_cat (pe_dget (units1 hr) (pv 2) (pv 3) (fun _ _ => rfl)) (pe_lst (pa_cons (pv 4) pa_nil))) (pg_sub (pv 2) (pv 3) (set_dict (units1 hr))))))
 (pss_one (ps_ret (pe_callTy (call_dictPK (K := K) rfl rfl) (by rfl) B.b_dict (by decide +kernel) (pa_cons (pe_lc (own := [("_law_block", 3)]) rfl sc__law_had.nd (pi_keysF (pv 2)) (blkOk_by (N := ["_law_hung", "_law_moves_here", "_law_found", "_law_block", "_law_place"]) (sc := defScope s__law_had) (by decide +kernel)) (fun _ _ _ _ _ => (pg_name (i := 3) sc__law_had.nd rfl (Or.inl rfl))) (fun _ _ _ _ _ => pts_nil) (fun _ _ _ _ _ => (pe_tup (pa_cons (pv 3) (pa_cons (pe_callTy (call_tplK (K := K) rfl) (by rfl) B.b_tuple (by decide +kernel) (pa_cons (pe_callB (cr_sortedSetW (w := w) rfl rfl) (by rfl) B.b_sorted (by decide +kernel) (pa_cons (pe_callTy (cr_setLiK (K := K) (w := w) rfl rfl rfl) (by rfl) B.b_set (by decide +kernel) (pa_cons (pe_dget (units1 hr) (pv 2) (pv 3) (fun _ _ => rfl)) pa_nil)) pa_nil)) pa_nil)) pa_nil))))) pa_nil)))))), ?_⟩
    have st : SqT K H t (nats hs) := .of ht
    walk_at "h0"
    rw [nats_length]
    refine ⟨1, (hs.length : Int) + 1, rfl, ⟨by omega, by omega, by omega, by omega⟩, fun L nL => ?_⟩
    refine lc_range (lo := 1) (n := Int.toNat ((hs.length : Int) + 1 - 1)) (fun i G => Same H G ∧ ∃ ps as : List Addr, ps.length = i ∧ G L = some (.lst (refs ps)) ∧ PsAt G 1 ps as ∧ LsAt G as ((hs.take i).map fun p => [p]) ∧ ∀ a ∈ as, a ≠ L)
      ⟨same_new (Same.refl _) nL, [], [], rfl, upd_same, ⟨rfl, fun i p a h => nomatch h⟩, ⟨rfl, fun i a l h => nomatch h⟩, fun a h => nomatch h⟩ ?_ ?_
    · rintro i G hi ⟨s1, ps, as, lp, eL, pa, ls, ne⟩
      have hi' : i < hs.length := by omega
      have ha := at_pred (nats_get (List.getElem?_eq_getElem hi'))
      have sT : SqT K G t (nats hs) := .of (s1 _ _ ht)
      walk_at "hs"
      refine ⟨rfl, ?_⟩
      walk_at "hs"
      intro a na
      have s2 : Same G (upd G a (.lst [.int (hs[i] : Nat)])) := same_new (Same.refl _) na
      have ea : upd G a (.lst [.int (hs[i] : Nat)]) a = some (.lst [.int (hs[i] : Nat)]) := upd_same
      generalize upd G a (.lst [.int (hs[i] : Nat)]) = G2 at s2 ea ⊢
      walk_at "hs"
      intro T nT
      have s3 : Same G2 (upd G2 T (.tup [.int (1 + (i : Nat)), .ref a])) := same_new (Same.refl _) nT
      have eT : upd G2 T (.tup [.int (1 + (i : Nat)), .ref a]) T = some (.tup [.int (1 + (i : Nat)), .ref a]) := upd_same
      generalize upd G2 T (.tup [.int (1 + (i : Nat)), .ref a]) = G3 at s3 eT ⊢
      walk_at "hs"
      have s23 := s2.trans s3
      have eL3 := s23 _ _ eL
      have b4 : But L G3 (upd G3 L (.lst (refs ps ++ [.ref T]))) := But.mut (But.refl _ _)
      have nt : ∀ xs, G3 L ≠ some (.tup xs) := fun xs z => by rw [eL3] at z; cases z
      have neT : T ≠ L := fun z => by rw [z, eL3] at eT; cases eT
      have neA : a ≠ L := fun z => by rw [z, eL] at na; cases na
      refine ⟨_, eL3, szLt (by rw [refs_length]; omega), same_mut (s1.trans s23) nL, ps ++ [T], as ++ [a], by rw [List.length_append, lp]; rfl, ?_, ?_, ?_, fun b hb => ?_⟩
      · rw [upd_same, refs_snoc]
      · exact ((pa.same s23).but b4 nt).snoc (by omega) (b4 _ _ neT eT)
      · rw [List.take_add_one, List.getElem?_eq_getElem hi', List.map_append]
        exact ((ls.same s23).butN b4 ne).snoc (l := [hs[i]]) (b4 _ _ neA (s3 _ _ ea))
      · rcases List.mem_append.mp hb with hb | hb
        · exact ne b hb
        · rw [List.mem_singleton.mp hb]
          exact neA
    rintro G ⟨s1, ps, as, lp, eL, pa, ls, ne⟩
    have en : Int.toNat ((hs.length : Int) + 1 - 1) = hs.length := by omega
    rw [en, List.take_length] at ls
    walk_at "hs"
    refine ⟨L, ps, _, rfl, .of eL, pa.dict, ?_⟩
    rw [kdl_fresh]
    intro D nD
    have s2 : Same G (upd G D (.dK (kdl 1 (refs as)))) := same_new (Same.refl _) nD
    have eD : upd G D (.dK (kdl 1 (refs as))) D = some (.dK (kdl 1 (refs as))) := upd_same
    generalize upd G D (.dK (kdl 1 (refs as))) = G2 at s2 eD ⊢
    have s12 := s1.trans s2
    have nDH := s1.free nD
    have ls2 := ls.same s2
    clear ne pa eL ls s2 lp
    walk_at "hs"
    refine ⟨u, rfl, ⟨_, SqT.of (s12 _ _ hu)⟩, ?_⟩
    refine lp_tup (K := K) (xs := us) (fun i σ' H' => (∃ x3 x4, σ' = [some (.ref t), some (.ref u), some (.ref D), x3, x4]) ∧ Same H H' ∧ ∃ as, H' D = some (.dK (kdl 1 (refs as))) ∧ LsAt H' as (tiesL hs (ms.take i)))
      ⟨⟨_, _, rfl⟩, s12, as, eD, ls2⟩ (fun i σ' H' _ h => .of (h.2.1 _ _ hu)) ?_ ?_
    · clear eD ls2 s12 s1 nD
      rintro i v σ' Hx hv ⟨⟨x3, x4, rfl⟩, s2, as, eD, ls⟩
      obtain ⟨y, hy, py⟩ := h4.at hv
      obtain ⟨a, rfl, ha⟩ := py.same s2
      have sa : SqT K Hx a [.int (y.1 : Nat), .int (y.2 : Nat)] := .of ha
      obtain ⟨k1, k2, k3, k4⟩ := mo y (List.mem_of_getElem? hy)
      have tl : (tiesL hs (ms.take i)).length = hs.length := tiesL_len ..
      have hi : y.1 - 1 < (tiesL hs (ms.take i)).length := by rw [tl]; omega
      obtain ⟨b, hb, eb⟩ := ls.get hi
      have lt : i < ms.length := (List.getElem?_eq_some_iff.mp hy).1
      have to := tieOk_all hg (fun m hm => ⟨(mo m hm).1, (mo m hm).2.2.1, (mo m hm).2.2.2⟩) i (by omega) _ _ (List.getElem?_eq_getElem hi)
      walk_at "hs"
      refine ⟨D, _, rfl, dgetN (.inl eD) (refs_get hb) (by omega), ?_⟩
      walk_at "hs"
      intro b1 nb1
      have s3 : Same Hx (upd Hx b1 (.lst [.int (y.2 : Nat)])) := same_new (Same.refl _) nb1
      have eb1 : upd Hx b1 (.lst [.int (y.2 : Nat)]) b1 = some (.lst [.int (y.2 : Nat)]) := upd_same
      generalize upd Hx b1 (.lst [.int (y.2 : Nat)]) = G3 at s3 eb1 ⊢
      walk_at "hs"
      refine x_cat (s3 _ _ eb) eb1 (szLe (by rw [nats_length]; show _ + 1 ≤ _; omega)) fun N nN => ?_
      have s4 := s3.trans (same_new (Same.refl _) nN (o := .lst (nats (tiesL hs (ms.take i))[y.1 - 1] ++ [V.int (y.2 : Nat)])))
      have eN := upd_same (H := G3) (a := N) (o := .lst (nats (tiesL hs (ms.take i))[y.1 - 1] ++ [V.int (y.2 : Nat)]))
      generalize upd G3 N (.lst (nats (tiesL hs (ms.take i))[y.1 - 1] ++ [V.int (y.2 : Nat)])) = G4 at s4 eN ⊢
      walk_at "hs"
      have eD4 := s4 _ _ eD
      refine ⟨D, _, rfl, dputN (i := y.1 - 1) eD4 (by rw [refs_length, ls.1]; exact hi) (by rw [refs_length, ls.1, tl]; omega) (by omega), ?_⟩
      walk_at "hs"
      rw [tiesL_take hy, refs_set]
      have b5 : But D G4 (upd G4 D (.dK (kdl 1 (refs (as.set (y.1 - 1) N))))) := But.mut (But.refl _ _)
      have nl : ∀ xs, G4 D ≠ some (.lst xs) := fun xs z => by rw [eD4] at z; cases z
      have neN : N ≠ D := fun z => by rw [z, eD4] at eN; cases eN
      refine ⟨⟨_, _, rfl⟩, same_mut (s2.trans s4) nDH, _, upd_same, ?_⟩
      have e : nats (tiesL hs (ms.take i))[y.1 - 1] ++ [V.int (y.2 : Nat)] = nats ((tiesL hs (ms.take i)).getD (y.1 - 1) [] ++ [y.2]) := by
        rw [List.getD_eq_getElem?_getD, List.getElem?_eq_getElem hi, Option.getD_some, nats_append]
        rfl
      rw [e] at eN
      exact ((ls.same s4).but b5 nl).set (b5 _ _ neN eN)
    · clear eD ls2 s12 s1 nD
      rintro σ' H2 ⟨⟨x3, x4, rfl⟩, s2, as, eD, ls⟩
      have hml : ms.length = us.length := h4.len.symm
      rw [← hml, List.take_length] at ls
      have tl : (tiesL hs ms).length = hs.length := tiesL_len ..
      have ok := tieOk_all hg (fun m hm => ⟨(mo m hm).1, (mo m hm).2.2.1, (mo m hm).2.2.2⟩) ms.length (Nat.le_refl _)
      rw [List.take_length] at ok
      walk_at "hs"
      refine ⟨D, _, rfl, eD, fun o L2 nL2 => ?_⟩
      have b3 : But D H2 (upd H2 D (.frz o (.dK (kdl 1 (refs as))))) := but_frz
      have eF : upd H2 D (.frz o (.dK (kdl 1 (refs as)))) D = some (.frz o (.dK (kdl 1 (refs as)))) := upd_same
      have s3 : Same H (upd H2 D (.frz o (.dK (kdl 1 (refs as))))) := same_mut s2 nDH
      have ls3 := ls.but b3 (fun xs z => by rw [eD] at z; cases z)
      generalize upd H2 D (.frz o (.dK (kdl 1 (refs as)))) = H3 at b3 eF s3 ls3 nL2 ⊢
      refine lc_it (walk_keys (d := D) (o := o) (kvs := kdl 1 (refs as))) (fun i G => Same H3 G ∧ ∃ ps bs : List Addr, ps.length = i ∧ G L2 = some (.lst (refs ps)) ∧ PsAt G 1 ps bs ∧ TlAt G bs (((tiesL hs ms).take i).map (hadL hs.length)))
        ⟨same_new (Same.refl _) nL2, [], [], rfl, upd_same, ⟨rfl, fun i p a h => nomatch h⟩, rfl, fun i a l h => nomatch h⟩ (fun i G _ h => h.1 _ _ eF) ?_ ?_
      · rintro i x5 G G' hi ⟨s4, ps, bs, lb, eB, pa, ts⟩ ⟨rfl, k, v, ek, rfl⟩
        obtain ⟨rfl, ev⟩ := kdl_at ek
        rw [kdl_len, refs_length, ls.1] at hi
        have hi3 : i < (tiesL hs ms).length := hi
        obtain ⟨b, hb, eb⟩ := (ls3.same s4).get hi3
        obtain ⟨l1, l2, l3⟩ := ok i _ (List.getElem?_eq_getElem hi3)
        walk_at "hs"
        refine ⟨rfl, ?_⟩
        walk_at "hs"
        refine ⟨D, _, rfl, dgetN (.inr ⟨o, s4 _ _ eF⟩) (refs_get hb) rfl, ?_⟩
        walk_at "hs"
        refine ⟨b, intsN (tiesL hs ms)[i], rfl, by rw [ints_nats]; exact .of eb, by rw [intsN_len]; omega, fun S c nS hc => ?_⟩
        rw [intsN_len] at hc
        walk_at "hs"
        refine ⟨S, _, c, rfl, upd_same, by omega, fun ns L asc mem ln nL => ?_⟩
        obtain rfl := hadL_only (fun p hp => (l3 p hp).1) asc mem
        rw [ints_nats]
        walk_at "hs"
        intro T nT
        have s5 := (((same_new (Same.refl _) nS).trans (same_new (Same.refl _) nL)).trans (same_new (Same.refl _) nT) : Same G' (upd (upd (upd G' S (SetO w S (fun j => decide (j ∈ intsN (tiesL hs ms)[i])) c)) L (HO.lst (nats (hadL hs.length (tiesL hs ms)[i])))) T (HO.tup (nats (hadL hs.length (tiesL hs ms)[i])))))
        have eT := upd_same (H := upd (upd G' S (SetO w S (fun j => decide (j ∈ intsN (tiesL hs ms)[i])) c)) L (HO.lst (nats (hadL hs.length (tiesL hs ms)[i])))) (a := T) (o := HO.tup (nats (hadL hs.length (tiesL hs ms)[i])))
        generalize upd (upd (upd G' S (SetO w S (fun j => decide (j ∈ intsN (tiesL hs ms)[i])) c)) L (HO.lst (nats (hadL hs.length (tiesL hs ms)[i])))) T (HO.tup (nats (hadL hs.length (tiesL hs ms)[i]))) = G5 at s5 eT ⊢
        walk_at "hs"
        intro U nU
        have s6 : Same G5 (upd G5 U (.tup [kV (Sum.inl ((1 + i : Nat) : Int)), .ref T])) := same_new (Same.refl _) nU
        have eU : upd G5 U (.tup [kV (Sum.inl ((1 + i : Nat) : Int)), .ref T]) U = some (.tup [kV (Sum.inl ((1 + i : Nat) : Int)), .ref T]) := upd_same
        generalize upd G5 U (.tup [kV (Sum.inl ((1 + i : Nat) : Int)), .ref T]) = G6 at s6 eU ⊢
        walk_at "hs"
        have s56 := s5.trans s6
        have eB6 := s56 _ _ eB
        have b7 : But L2 G6 (upd G6 L2 (.lst (refs ps ++ [.ref U]))) := But.mut (But.refl _ _)
        have nt : ∀ xs, G6 L2 ≠ some (.tup xs) := fun xs z => by rw [eB6] at z; cases z
        have nU2 : U ≠ L2 := fun z => by rw [z, eB6] at eU; cases eU
        have eT6 := s6 _ _ eT
        have nT2 : T ≠ L2 := fun z => by rw [z, eB6] at eT6; cases eT6
        refine ⟨_, eB6, szLt (by rw [refs_length]; omega), same_mut (s4.trans s56) nL2, ps ++ [U], bs ++ [T], by rw [List.length_append, lb]; rfl, ?_, ?_, ?_⟩
        · rw [upd_same, refs_snoc]
        · exact ((pa.same s56).but b7 nt).snoc (by rw [lb]) (b7 _ _ nU2 eU)
        · rw [List.take_add_one, List.getElem?_eq_getElem hi3, List.map_append]
          exact ((ts.same s56).but b7 nt).snoc (b7 _ _ nT2 eT6)
      · rintro G ⟨s4, ps, bs, lb, eB, pa, ts⟩
        rw [kdl_len, refs_length, ls.1, List.take_length] at ts
        walk_at "hs"
        refine ⟨L2, ps, _, rfl, .of eB, pa.dict, ?_⟩
        rw [kdl_fresh]
        intro D2 nD2
        have s8 : Same G (upd G D2 (.dK (kdl 1 (refs bs)))) := same_new (Same.refl _) nD2
        exact q D2 _ ((s3.trans s4).trans s8) (s3.free (s4.free nD2)) ⟨bs, upd_same, ts.same s8⟩
end
set_option maxRecDepth 100000
set_option maxHeartbeats 2000000
open PySem PySem.Spec L2


local macro_rules | `(tactic| walk_at "h1") => `(tactic| first
  | with_reducible refine x_dget ?_
  | with_reducible refine x_dc ?_
  | with_reducible refine x_keysF ?_
  | with_reducible refine x_keysFT ?_)

theorem sc__can_be : FnScope ["words", "block", "places", "up", "place", "of_place", "listed"] ["words", "block", "places"] (defScope s__can_be) := ⟨rfl, rfl, rfl, by decide +kernel, rfl, by decide +kernel, by decide +kernel⟩
theorem sc_can_stand : FnScope ["history", "words", "ties", "block"] ["history", "words"] (defScope s_can_stand) := ⟨rfl, rfl, rfl, by decide +kernel, rfl, by decide +kernel, by decide +kernel⟩
theorem col_at {ls : List (List (Option Bool))} {n b i : Nat} (rl : ∀ r ∈ ls, r.length = n) (b1 : 1 ≤ b) (b2 : b ≤ n) (hi : i < ls.length) : ∃ o, ls[i][b - 1]? = some o ∧ (col ls b)[i]? = some o := by
  have h := rl _ (List.getElem_mem hi)
  have hb : b - 1 < ls[i].length := by omega
  refine ⟨ls[i][b - 1], List.getElem?_eq_getElem hb, ?_⟩
  unfold col
  rw [List.getElem?_map, List.getElem?_eq_getElem hi]
  show some ((ls[i][b - 1]?).getD none) = _
  rw [List.getElem?_eq_getElem hb]
  rfl
section
variable {P : Program} {w : World} {K : PySem.W.Frag} {mg : Str → Option Value} {base : Heap} {Z : Ad}
def spCanBe (Z : Ad) : Sp := fun vs H Q _ => ∃ (x t : Addr) (n b : Nat) (us : List (Option Nat)) (ls : List (List (Option Bool))) (k : List Nat), vs = [.ref x, .int b, .ref t] ∧ WordsAt Z H x n us ls ∧ WdOk n us ls ∧ 1 ≤ b ∧ b ≤ n ∧ H t = some (.tup (nats k)) ∧ ∀ H', Same H H' → Q (.bl (canB us ls b k)) H'
theorem ok_canBe {f : Addr} {fd : FuncData} (F : Fun K "_can_be" "_can_be" s__can_be f fd) (B : Bl Z mg) (W : WCls K Z) : FnOk P w K mg base CX0 1 f fd ["words", "block", "places"] (spCanBe Z) := by
  refine F.ok sc__can_be (fun vs H Q E h => ?_) (fun cdv A outer s H vs Q E hr h => ?_)
  · obtain ⟨x, t, n, b, us, ls, k, rfl, _⟩ := h
    rfl
  · obtain ⟨x, t, n, b, us, ls, k, rfl, ⟨dx, fs, tu, tl, as, h1, h2, h3, h4, h5, h6, h7⟩, ok, b1, b2, ht, q⟩ := h
    have hub : b - 1 < us.length := by rw [ok.ul]; omega
    have au : atI (upvs us) ((b : Int) - 1) = some (upV us[b - 1]) := by
      rw [show (b : Int) - 1 = ((b - 1 : Nat) : Int) by omega]
      exact upvs_at (List.getElem?_eq_getElem hub)
    have tu5 : SqT K H tu (upvs us) := .of h5
    have tl6 : SqT K H tl (refs as) := .of h6
    have tk : SqT K H t (nats k) := .of ht
    have asn : as.length = n + 1 := by rw [h7.len, ok.ll]
    refine ⟨_, (pss_cons (ps_set (i := 3) sc__can_be.nd rfl (Or.inl rfl) (pe_ix (ix_tupK (K := K) rfl) (pe_fldK (K := K) rfl (pv 0) rfl) (pe_op op_sub (pv 1) pe_int) (fun _ _ => rfl)))
 (C8.pss_cut (ps_if (PW.pt (pw_and (pt_cmpR op_notNk (pv 3) pe_non (nomark _)) (pw_and1 (pt_cmpR (op_notInK (K := K) rfl) (pv 3) (pv 2) (by rfl))))) (pss_one (ps_ret pe_bl)) pss_nil)
 (pss_cons (ps_for PassesOwn.never rfl (pi_enumT0 (K := K) rfl rfl (by rfl) B.b_enumerate (pa_cons (pe_fldK (K := K) rfl (pv 0) rfl) pa_nil)) (pg_tup rfl (pgs_cons (pg_name (i := 4) sc__can_be.nd rfl (Or.inl rfl)) (pgs_cons (pg_name (i := 5) sc__can_be.nd rfl (Or.inl rfl)) pgs_nil))) (pss_cons (ps_set (i := 6) sc__can_be.nd rfl (Or.inl rfl) (pe_ix (ix_tupK (K := K) rfl) (pv 5) (pe_op op_sub (pv 1) pe_int) (fun _ _ => rfl)))
 (pss_one (ps_if (PW.pt (pw_or (PW.pt (pw_and (pt_cmpR op_isBk (pv 6) pe_bl (nomark _)) (pw_and1 (pt_cmpR (op_notInK (K := K) rfl) (pv 4) (pv 2) (by rfl))))) (pw_or1 (PW.pt (pw_and (pt_cmpR op_isBk (pv 6) pe_bl (nomark _)) (pw_and1 (pt_cmpR (op_eqDK (K := K) rfl hr.units) (pv 2) (pe_tup (pa_cons (pv 4) pa_nil)) (nomark _)))))))) (pss_one (ps_ret pe_bl)) pss_nil))))
 (pss_one (ps_ret pe_bl))))), ?_⟩
    walk_at "h0"
    refine ⟨x, _, dx, _, _, rfl, h1, W.c, W.nu, h3, ?_⟩
    walk_at "hs"
    have e1 : upOk us b k = (match us[b - 1] with | some q => decide (q ∈ k) | none => true) := by
      unfold upOk
      rw [List.getElem?_eq_getElem hub]
      cases us[b - 1] <;> rfl
    have bad : upOk us b k = false → Q (.bl false) H := fun e => by
      have := q H (Same.refl _)
      unfold canB at this
      rw [e] at this
      exact this
    refine ⟨fun σ' H2 => σ' = [some (.ref x), some (.int b), some (.ref t), some (upV us[b - 1]), none, none, none] ∧ H2 = H ∧ upOk us b k = true, ?_, ?_⟩
    · cases hu : us[b - 1] with
      | none =>
        rw [hu] at e1
        dsimp only [upV]
        walk_at "hs"
        exact ⟨rfl, rfl, e1⟩
      | some p =>
        rw [hu] at e1
        dsimp only [upV]
        walk_at "hs"
        refine x_ninNT tk ?_
        walk_at "hs"
        refine x_isnd (fun c => ?_) (fun c => ?_)
        · walk_at "hs"
          exact bad (e1.trans (decide_eq_false c))
        · walk_at "hs"
          exact ⟨rfl, rfl, e1.trans (decide_eq_true c)⟩
    · rintro σ' H2 ⟨rfl, rfl, up⟩
      walk_at "hs"
      refine ⟨x, _, dx, _, _, rfl, h1, W.c, W.nl, h4, ?_⟩
      refine ⟨tl, _, rfl, tl6, ?_⟩
      refine lp_enumT (K := K) (k := 0) (xs := refs as) (fun i σ' H' => (∃ x4 x5 x6, σ' = [some (.ref x), some (.int b), some (.ref t), some (upV us[b - 1]), x4, x5, x6]) ∧ Same H2 H' ∧ canCols k 0 ((col ls b).take i) = true)
        ⟨⟨_, _, _, rfl⟩, Same.refl _, rfl⟩ (fun i σ' H' _ h => .of (h.2.1 _ _ h6)) ?_ ?_
      · rintro i v σ' H' T hv ⟨⟨x4, x5, x6, rfl⟩, s1, cc⟩ nT
        have hi : i < ls.length := by
          have := (List.getElem?_eq_some_iff.mp hv).1
          rw [refs_length, asn] at this
          rw [ok.ll]
          exact this
        obtain ⟨a, ha, ea⟩ := (h7.same s1).get hi
        obtain rfl : v = .ref a := Option.some.inj (hv.symm.trans (refs_get ha))
        obtain ⟨o, ho, hc⟩ := col_at ok.rl b1 b2 hi
        have s2 : Same H' (upd H' T (.tup [.int (0 + (i : Nat)), .ref a])) := same_new (Same.refl _) nT
        have eT : upd H' T (.tup [.int (0 + (i : Nat)), .ref a]) T = some (.tup [.int (0 + (i : Nat)), .ref a]) := upd_same
        generalize upd H' T (.tup [.int (0 + (i : Nat)), .ref a]) = G at s2 eT ⊢
        have s12 := s1.trans s2
        have ta : SqT K G a (wds ls[i]) := .of (s2 _ _ ea)
        have tk2 : SqT K G t (nats k) := .of (s12 _ _ ht)
        have ab : atI (wds ls[i]) ((b : Int) - 1) = some (wdV o) := by
          rw [show (b : Int) - 1 = ((b - 1 : Nat) : Int) by omega]
          exact wds_at ho
        have i0 : (0 : Int) + (i : Nat) = (i : Nat) := by omega
        have key := canCols_take (k := k) hc
        rw [cc, Bool.true_and] at key
        have no : colOk k i o = false → ∀ H3, Same G H3 → Q (.bl false) H3 := fun e H3 s3 => by
          have := q H3 (s12.trans s3)
          unfold canB at this
          rw [up, canCols_no (i := i) hc (by rw [Nat.zero_add]; exact e)] at this
          exact this
        walk_at "hs"
        cases o with
        | none =>
          refine x_isdF (fun z => nomatch z) ?_
          walk_at "hs"
          refine x_isdF (fun z => nomatch z) ?_
          walk_at "hs"
          exact ⟨⟨_, _, _, rfl⟩, s12, key⟩
        | some f =>
          cases f with
          | true =>
            refine x_isdT rfl ?_
            walk_at "hs"
            rw [i0]
            refine x_ninNT tk2 ?_
            walk_at "hs"
            refine x_isnd (fun c => ?_) (fun c => ?_)
            · walk_at "hs"
              exact no (decide_eq_false c) _ (Same.refl _)
            · walk_at "hs"
              exact ⟨⟨_, _, _, rfl⟩, s12, key.trans (decide_eq_true c)⟩
          | false =>
            refine x_isdF (fun z => nomatch z) ?_
            walk_at "hs"
            rw [i0]
            intro U nU
            have s3 : Same G (upd G U (.tup [.int (i : Nat)])) := same_new (Same.refl _) nU
            have eU : upd G U (.tup [.int (i : Nat)]) U = some (.tup [.int (i : Nat)]) := upd_same
            generalize upd G U (.tup [.int (i : Nat)]) = G2 at s3 eU ⊢
            have eU2 : G2 U = some (.tup (nats [i])) := eU
            refine x_eqTup (s3.seqT tk2) (.of eU2) ?_
            walk_at "hs"
            refine x_isd (fun c => ?_) (fun c => ?_)
            · walk_at "hs"
              exact no (by show (!decide (k = [i])) = false; rw [decide_eq_true c]; rfl) _ s3
            · walk_at "hs"
              exact ⟨⟨_, _, _, rfl⟩, s12.trans s3, key.trans (by show (!decide (k = [i])) = true; rw [decide_eq_false c]; rfl)⟩
      · rintro σ' H' ⟨⟨x4, x5, x6, rfl⟩, s1, cc⟩
        have cl : (col ls b).length = (refs as).length := by rw [refs_length, asn, col_len, ok.ll]
        rw [← cl, List.take_length] at cc
        walk_at "hs"
        have := q H' s1
        unfold canB at this
        rw [up, cc] at this
        exact this
def spStand (Z : Ad) : Sp := fun vs H Q _ => ∃ (x y : Addr) (hs : List Nat) (ms : List (Nat × Nat)) (us : List (Option Nat)) (ls : List (List (Option Bool))), vs = [.ref x, .ref y] ∧ HistAt Z H x hs ms ∧ hs.length ≤ 40 ∧ ms.length ≤ 50 ∧ HgOk hs ∧ MvOk hs.length ms ∧ WordsAt Z H y hs.length us ls ∧ WdOk hs.length us ls ∧ ∀ H', Same H H' → Q (.bl ((standsN us ls (hadLs hs ms)).all fun b => b)) H'
theorem ok_stand {f : Addr} {fd : FuncData} (F : Fun K "can_stand" "can_stand" s_can_stand f fd) (B : Bl Z mg) (HC : HisC K Z) (T : Cls K Z.a_Tree) (N : NoAttr K Z.a_Tree "hung") (W : WCls K Z) (I : IsC K Z.a_Words)
    {f_had : Addr} {fd_had : FuncData} (C_had : Cal K mg "had" f_had fd_had ["history"]) (G_had : FnOk P w K mg base CX0 2 f_had fd_had ["history"] (spHad Z)) {f__can_be : Addr} {fd__can_be : FuncData} (C__can_be : Cal K mg "_can_be" f__can_be fd__can_be ["words", "block", "places"]) (G__can_be : FnOk P w K mg base CX0 1 f__can_be fd__can_be ["words", "block", "places"] (spCanBe Z)) : FnOk P w K mg base CX0 3 f fd ["history", "words"] (spStand Z) := by
  refine F.ok sc_can_stand (fun vs H Q E h => ?_) (fun cdv A outer s H vs Q E hr h => ?_)
  · obtain ⟨x, y, hs, ms, us, ls, rfl, _⟩ := h
    rfl
  · obtain ⟨x, y, hs, ms, us, ls, rfl, hh, h40, h50, hg, mo, wa, ok, q⟩ := h
    obtain ⟨dh, t, u, vs, h1, ⟨dt, tt, h2, h2'⟩, h3, h4⟩ := id hh
    obtain ⟨dy, fs, tu, tl, as, k1, k2, k3, k4, k5, k6, k7⟩ := id wa
    have st : SqT K H tt (nats hs) := .of h2'
    refine ⟨_, (pss_cons (ps_if (PW.pt (pw_or (pt_not (pt_val (pe_callB (call_isiK' (K := K) rfl) (by rfl) B.b_isinstance (by decide +kernel) (pa_cons (pv 1) (pa_cons (pe_glob (v := .ref Z.a_Words) rfl B.k_Words rfl) pa_nil))))) (pw_or1 (pt_cmpR op_ne (pe_fldK (K := K) rfl (pv 1) rfl) (pe_callB (call_lenK (K := K) rfl) (by rfl) B.b_len PySem.boot_len (pa_cons (pe_fldK (K := K) rfl (pe_fldK (K := K) rfl (pv 0) rfl) rfl) pa_nil)) (nomark _))))) (pss_one ps_never) pss_nil)
 (pss_cons (ps_set (i := 2) sc_can_stand.nd rfl (Or.inr rfl) (pe_call G_had (hr.mono (by first | decide | omega)) (by rfl) C_had.g C_had.k C_had.b .nil pass0 (pa_cons (pv 0) pa_nil)))
 (pss_one (ps_ret (pe_callB (cr_allK (K := K) rfl rfl) (by rfl) B.b_all (by decide +kernel) (pa_cons (pe_lc (own := [("block", 3)]) rfl sc_can_stand.nd (pi_keysF (pv 2)) (blkOk_by (N := ["history", "words", "ties", "block"]) (sc := defScope s_can_stand) (by decide +kernel)) (fun _ _ _ _ _ => (pg_name (i := 3) sc_can_stand.nd rfl (Or.inl rfl))) (fun _ _ _ _ _ => pts_nil) (fun _ _ _ _ _ => (pe_call G__can_be (hr.mono (by first | decide | omega)) (by rfl) C__can_be.g C__can_be.k C__can_be.b .nil pass0 (pa_cons (pv 1) (pa_cons (pv 3) (pa_cons (pe_dget (units1 hr) (pv 2) (pv 3) (fun _ _ => rfl)) pa_nil)))))) pa_nil)))))), ?_⟩
    walk_at "h0"
    refine isi_own I k1 ?_
    walk_at "hs"
    refine ⟨y, _, dy, _, _, rfl, k1, W.c, W.nb, k2, ?_⟩
    walk_at "hs"
    refine ⟨x, _, dh, _, _, rfl, h1, HC.c, HC.nt, rfl, ?_⟩
    walk_at "hs"
    refine ⟨t, _, dt, _, _, rfl, h2, T, N, rfl, ?_⟩
    walk_at "hs"
    rw [nats_length]
    refine x_isdF (fun z => z rfl) ?_
    walk_at "hs"
    refine ⟨x, hs, ms, rfl, hh, h40, h50, hg, mo, fun D H1 s1 nD kn => ?_⟩
    obtain ⟨bs, eD, ts⟩ := kn
    walk_at "hs"
    refine ⟨D, _, rfl, eD, fun o L nL => ?_⟩
    have eF : upd H1 D (.frz o (.dK (kdl 1 (refs bs)))) D = some (.frz o (.dK (kdl 1 (refs bs)))) := upd_same
    have s3 : Same H (upd H1 D (.frz o (.dK (kdl 1 (refs bs))))) := same_mut s1 nD
    have ts3 := ts.but (but_frz (H := H1) (d := D) (o := .frz o (.dK (kdl 1 (refs bs))))) (fun xs z => by rw [eD] at z; cases z)
    generalize upd H1 D (.frz o (.dK (kdl 1 (refs bs)))) = H3 at eF s3 ts3 nL ⊢
    have bl : bs.length = (hadLs hs ms).length := ts.1
    have hl := hadLs_len hs ms
    have sl : (standsN us ls (hadLs hs ms)).length = (hadLs hs ms).length := by
      unfold standsN
      rw [List.length_map, List.length_range]
    refine lc_it (walk_keys (d := D) (o := o) (kvs := kdl 1 (refs bs))) (fun i G => Same H3 G ∧ G L = some (.lst (((standsN us ls (hadLs hs ms)).take i).map V.bl)))
      ⟨same_new (Same.refl _) nL, upd_same⟩ (fun i G _ h => h.1 _ _ eF) ?_ ?_
    · rintro i x5 G G' hi ⟨s4, eL⟩ ⟨rfl, k, v, ek, rfl⟩
      obtain ⟨rfl, ev⟩ := kdl_at ek
      rw [kdl_len, refs_length, bl] at hi
      obtain ⟨b, hb, eb⟩ := (ts3.same s4).get hi
      walk_at "hs"
      refine ⟨rfl, ?_⟩
      walk_at "hs"
      refine ⟨D, _, rfl, dgetN (.inr ⟨o, s4 _ _ eF⟩) (refs_get hb) rfl, ?_⟩
      walk_at "hs"
      refine ⟨y, b, hs.length, 1 + i, us, ls, _, rfl, wa.same (s3.trans s4), ok, by omega, by omega, eb, fun G5 s5 => ?_⟩
      have eL5 := s5 _ _ eL
      have gi : (standsN us ls (hadLs hs ms))[i]? = some (canB us ls (1 + i) (hadLs hs ms)[i]) := by
        unfold standsN
        rw [List.getElem?_map, List.getElem?_range hi]
        show some (canB us ls (i + 1) ((hadLs hs ms).getD i [])) = _
        rw [List.getD_eq_getElem?_getD, List.getElem?_eq_getElem hi, Nat.add_comm]
        rfl
      refine ⟨_, eL5, szLt (by rw [List.length_map, List.length_take]; omega), same_mut (s4.trans s5) nL, ?_⟩
      rw [upd_same, List.take_add_one, gi, List.map_append]
      rfl
    · rintro G ⟨s4, eL⟩
      rw [kdl_len, refs_length, bl, ← sl, List.take_length] at eL
      walk_at "hs"
      refine ⟨L, standsN us ls (hadLs hs ms), rfl, .of eL, ?_⟩
      exact q G (s3.trans s4)
end
set_option maxRecDepth 100000
set_option maxHeartbeats 2000000
open PySem PySem.Spec L2


local macro_rules | `(tactic| walk_at "h1") => `(tactic| first
  | with_reducible refine x_dget ?_
  | with_reducible refine x_dc ?_
  | with_reducible refine x_keysF ?_
  | with_reducible refine x_keysFT ?_)

theorem sc_many_pictures : FnScope ["history", "many", "ties", "block", "places"] ["history"] (defScope s_many_pictures) := ⟨rfl, rfl, rfl, by decide +kernel, rfl, by decide +kernel, by decide +kernel⟩
theorem hadLs_small {hs : List Nat} {ms : List (Nat × Nat)} {i : Nat} {k : List Nat} (h40 : hs.length ≤ 40) (h : (hadLs hs ms)[i]? = some k) : k.length ≤ 41 := by
  unfold hadLs at h
  rw [List.getElem?_map] at h
  cases g : (tiesL hs ms)[i]? with
  | none => rw [g] at h; cases h
  | some l =>
    rw [g] at h
    cases h
    have := hadL_len hs.length l
    omega
section
variable {P : Program} {w : World} {K : PySem.W.Frag} {mg : Str → Option Value} {base : Heap} {Z : Ad}
def spMany (Z : Ad) : Sp := fun vs H Q _ => ∃ (x : Addr) (hs : List Nat) (ms : List (Nat × Nat)), vs = [.ref x] ∧ HistAt Z H x hs ms ∧ hs.length ≤ 40 ∧ ms.length ≤ 50 ∧ HgOk hs ∧ MvOk hs.length ms ∧ ∀ H', Same H H' → Q (.int (manyN (hadLs hs ms) : Nat)) H'
theorem ok_many {f : Addr} {fd : FuncData} (F : Fun K "many_pictures" "many_pictures" s_many_pictures f fd) (B : Bl Z mg) {f_had : Addr} {fd_had : FuncData} (C_had : Cal K mg "had" f_had fd_had ["history"]) (G_had : FnOk P w K mg base CX0 2 f_had fd_had ["history"] (spHad Z)) : FnOk P w K mg base CX0 3 f fd ["history"] (spMany Z) := by
  refine F.ok sc_many_pictures (fun vs H Q E h => ?_) (fun cdv A outer s H vs Q E hr h => ?_)
  · obtain ⟨x, hs, ms, rfl, _⟩ := h
    rfl
  · obtain ⟨x, hs, ms, rfl, hh, h40, h50, hg, mo, q⟩ := h
    refine ⟨_, (pss_cons (ps_set (i := 1) sc_many_pictures.nd rfl (Or.inl rfl) pe_int)
 (pss_cons (ps_set (i := 2) sc_many_pictures.nd rfl (Or.inl rfl) (pe_call G_had (hr.mono (by first | decide | omega)) (by rfl) C_had.g C_had.k C_had.b .nil pass0 (pa_cons (pv 0) pa_nil)))
 (pss_cons (ps_for PassesOwn.never rfl (pi_keysF (pv 2)) (pg_name (i := 3) sc_many_pictures.nd rfl (Or.inl rfl)) (pss_cons (ps_set (i := 4) sc_many_pictures.nd rfl (Or.inl rfl) (pe_callB (call_lenK (K := K) rfl) (by rfl) B.b_len PySem.boot_len (pa_cons (pe_dget (units1 hr) (pv 2) (pv 3) (fun _ _ => rfl)) pa_nil)))
 (pss_one (ps_if (pt_cmpR op_gt (pv 4) pe_int (nomark _)) (pss_one (ps_aug (i := 1) sc_many_pictures.nd rfl (Or.inl rfl) (pe_op op_shl (pv 4) (pv 4)) iop_mul)) pss_nil))))
 (pss_one (ps_ret (pv 1)))))), ?_⟩
    walk_at "h0"
    refine ⟨x, hs, ms, rfl, hh, h40, h50, hg, mo, fun D H1 s1 nD kn => ?_⟩
    obtain ⟨bs, eD, ts⟩ := kn
    walk_at "hs"
    refine ⟨D, _, rfl, eD, fun o => ?_⟩
    have eF : upd H1 D (.frz o (.dK (kdl 1 (refs bs)))) D = some (.frz o (.dK (kdl 1 (refs bs)))) := upd_same
    have s3 : Same H (upd H1 D (.frz o (.dK (kdl 1 (refs bs))))) := same_mut s1 nD
    have ts3 := ts.but (but_frz (H := H1) (d := D) (o := .frz o (.dK (kdl 1 (refs bs))))) (fun xs z => by rw [eD] at z; cases z)
    generalize upd H1 D (.frz o (.dK (kdl 1 (refs bs)))) = H3 at eF s3 ts3 ⊢
    have bl : bs.length = (hadLs hs ms).length := ts.1
    refine lp_it (walk_keys (d := D) (o := o) (kvs := kdl 1 (refs bs))) (fun i σ' G => (∃ x3 x4, σ' = [some (.ref x), some (.int (manyN ((hadLs hs ms).take i) : Nat)), some (.ref D), x3, x4]) ∧ G = H3)
      ⟨⟨_, _, rfl⟩, rfl⟩ (fun i σ G _ h => h.2 ▸ eF) ?_ ?_
    · rintro i x5 σ' G G' hi ⟨⟨x3, x4, rfl⟩, rfl⟩ ⟨rfl, k, v, ek, rfl⟩
      obtain ⟨rfl, ev⟩ := kdl_at ek
      rw [kdl_len, refs_length, bl] at hi
      obtain ⟨b, hb, eb⟩ := ts3.get hi
      have sb : SqT K G' b (nats (hadLs hs ms)[i]) := .of eb
      have sm := hadLs_small h40 (List.getElem?_eq_getElem hi)
      have mt := manyN_take (List.getElem?_eq_getElem hi)
      walk_at "hs"
      refine ⟨D, _, rfl, dgetN (.inr ⟨o, eF⟩) (refs_get hb) rfl, ?_⟩
      walk_at "hs"
      rw [nats_length]
      refine x_isd (fun c => ?_) (fun c => ?_)
      · walk_at "hs"
        rw [Int.toNat_natCast]
        have e2 : (((hadLs hs ms)[i].length : Nat) : Int) * 2 ^ (hadLs hs ms)[i].length = (((hadLs hs ms)[i].length * 2 ^ (hadLs hs ms)[i].length : Nat) : Int) := by
          rw [Int.natCast_mul, Int.natCast_pow]
          rfl
        have sh := shl_small sm
        rw [e2, mt, show manyF (hadLs hs ms)[i] = (hadLs hs ms)[i].length * 2 ^ (hadLs hs ms)[i].length from if_pos (by omega), Int.natCast_mul (manyN _) _]
        exact ⟨_, _, rfl, rfl, .inr ⟨by omega, by omega⟩, ⟨_, _, rfl⟩, rfl⟩
      · walk_at "hs"
        rw [mt, show manyF (hadLs hs ms)[i] = 1 from if_neg (by omega), Nat.mul_one]
        exact ⟨⟨_, _, rfl⟩, rfl⟩
    · rintro σ' G ⟨⟨x3, x4, rfl⟩, rfl⟩
      rw [kdl_len, refs_length, bl, List.take_length]
      walk_at "hs"
      exact q _ s3
end
set_option maxRecDepth 100000
set_option maxHeartbeats 2000000
open PySem PySem.Spec L2


local macro_rules | `(tactic| walk_at "h1") => `(tactic| first
  | with_reducible refine x_dget ?_
  | with_reducible refine x_dc ?_
  | with_reducible refine x_keysF ?_
  | with_reducible refine x_keysFT ?_)

theorem sc__law_worths : FnScope ["_law_known", "_law_many", "_law_ups", "_law_lists", "_law_place", "_law_block", "_law_flags", "_law_flag"] ["_law_known", "_law_many"] (defScope s__law_worths) := ⟨rfl, rfl, rfl, by decide +kernel, rfl, by decide +kernel, by decide +kernel⟩
def keyW (n j : Nat) : List Key := [Sum.inl ((j / n : Nat) : Int), Sum.inl ((j % n + 1 : Nat) : Int)]
theorem keyW_inj {n i j : Nat} (h : keyW n i = keyW n j) : i = j := by
  unfold keyW at h
  have h1 := (List.cons.inj h).1
  have h2 := (List.cons.inj (List.cons.inj h).2).1
  have e1 : i / n = j / n := Int.ofNat.inj (Sum.inl.inj h1)
  have e2 : i % n + 1 = j % n + 1 := Int.ofNat.inj (Sum.inl.inj h2)
  rw [← Nat.div_add_mod i n, ← Nat.div_add_mod j n, e1, Nat.succ.inj e2]
theorem keyW_at {n p c : Nat} (hc : c < n) : keyW n (p * n + c) = [Sum.inl ((p : Nat) : Int), Sum.inl ((c + 1 : Nat) : Int)] := by
  unfold keyW
  have h0 : 0 < n := by omega
  rw [Nat.mul_comm p n, Nat.mul_add_div h0, Nat.div_eq_of_lt hc, Nat.add_zero, Nat.mul_add_mod, Nat.mod_eq_of_lt hc]
def wdl (n : Nat) : Nat → List Addr → List (List Key × V)
  | _, [] => []
  | j, a :: r => (keyW n j, .ref a) :: wdl n (j + 1) r
theorem wdl_len (n : Nat) : ∀ (j : Nat) (as : List Addr), (wdl n j as).length = as.length
  | _, [] => rfl
  | j, _ :: r => by
    show (wdl n (j + 1) r).length + 1 = r.length + 1
    rw [wdl_len n]
theorem wdl_get (n : Nat) : ∀ (j : Nat) (as : List Addr) (i : Nat), (wdl n j as)[i]? = as[i]?.map fun a => (keyW n (j + i), V.ref a)
  | _, [], _ => rfl
  | j, a :: r, 0 => rfl
  | j, a :: r, i + 1 => by
    show (wdl n (j + 1) r)[i]? = r[i]?.map _
    rw [wdl_get n (j + 1) r i, show j + 1 + i = j + (i + 1) by omega]
theorem wdl_at {n j i : Nat} {as : List Addr} {k : List Key} {v : V} (h : (wdl n j as)[i]? = some (k, v)) : k = keyW n (j + i) ∧ ∃ a, as[i]? = some a ∧ v = .ref a := by
  rw [wdl_get] at h
  cases e : as[i]? with
  | none => rw [e] at h; cases h
  | some x => rw [e] at h; cases h; exact ⟨rfl, x, rfl, rfl⟩
theorem wdl_val {n : Nat} : ∀ {j : Nat} {as : List Addr} {i : Nat} {a : Addr}, as[i]? = some a → valV (wdl n j as) (keyW n (j + i)) = some (.ref a)
  | _, [], _, _, h => by cases h
  | j, y :: r, 0, x, h => by
    cases h
    exact valV_pos rfl
  | j, y :: r, i + 1, x, h => by
    show valV ((keyW n j, V.ref y) :: wdl n (j + 1) r) _ = _
    rw [valV_neg (fun e => by have := keyW_inj e; omega), show j + (i + 1) = j + 1 + i by omega]
    exact wdl_val h
theorem wdl_no {n : Nat} : ∀ {j : Nat} {as : List Addr} {m : Nat}, j + as.length ≤ m → valV (wdl n j as) (keyW n m) = none
  | _, [], _, _ => rfl
  | j, y :: r, m, h => by
    rw [List.length_cons] at h
    show valV ((keyW n j, V.ref y) :: wdl n (j + 1) r) _ = _
    rw [valV_neg (fun e => by have := keyW_inj e; omega)]
    exact wdl_no (by omega)
theorem wdl_app (n : Nat) : ∀ (j : Nat) (as bs : List Addr), wdl n j (as ++ bs) = wdl n j as ++ wdl n (j + as.length) bs
  | _, [], _ => rfl
  | j, x :: r, bs => by
    show _ :: wdl n (j + 1) (r ++ bs) = _ :: (wdl n (j + 1) r ++ _)
    rw [wdl_app n (j + 1) r bs, List.length_cons, show j + 1 + r.length = j + (r.length + 1) by omega]
theorem wdl_snoc {n : Nat} {as : List Addr} {a : Addr} : putK (wdl n 0 as) (keyW n as.length) (.ref a) = wdl n 0 (as ++ [a]) := by
  rw [putK_new _ (wdl_no (by omega)), wdl_app, Nat.zero_add]
  rfl
def bls (l : List Bool) : List V := l.map V.bl
def BsAt (H : Hp) (as : List Addr) (n : Nat) (ks : List (List Nat)) : Prop := ∀ (j : Nat) (a : Addr), as[j]? = some a → H a = some (.lst (bls (worthL (ks.getD (j % n) []) (j / n))))
theorem BsAt.same {H H' : Hp} {as : List Addr} {n : Nat} {ks : List (List Nat)} (s : Same H H') (h : BsAt H as n ks) : BsAt H' as n ks := fun j a e => s _ _ (h j a e)
theorem BsAt.but {H H' : Hp} {d : Addr} {as : List Addr} {n : Nat} {ks : List (List Nat)} (b : But d H H') (nl : ∀ xs, H d ≠ some (.lst xs)) (h : BsAt H as n ks) : BsAt H' as n ks := fun j a e => b _ _ (fun z => nl _ (z ▸ h j a e)) (h j a e)
theorem BsAt.snoc {H : Hp} {as : List Addr} {n : Nat} {ks : List (List Nat)} {a : Addr} (h : BsAt H as n ks) (ha : H a = some (.lst (bls (worthL (ks.getD (as.length % n) []) (as.length / n))))) : BsAt H (as ++ [a]) n ks := fun j b hb => by
  rcases get_snoc hb with g | ⟨rfl, rfl⟩
  · exact h j b g
  · exact ha
def WorthsAt (H : Hp) (W : Addr) (n : Nat) (ks : List (List Nat)) : Prop := ∃ as : List Addr, as.length = (n + 1) * n ∧ H W = some (.dT (wdl n 0 as)) ∧ BsAt H as n ks
theorem WorthsAt.same {H H' : Hp} {W : Addr} {n : Nat} {ks : List (List Nat)} (s : Same H H') (h : WorthsAt H W n ks) : WorthsAt H' W n ks := by
  obtain ⟨as, h1, h2, h3⟩ := h
  exact ⟨as, h1, s _ _ h2, h3.same s⟩
theorem worthL_filter (k : List Nat) (p : Nat) : worthL k p = [true, false].filter fun f => if f = true then decide (p ∈ k) else (!decide (p ∈ k) || decide (1 < k.length)) := by
  unfold worthL
  by_cases h : p ∈ k
  · by_cases c : 1 < k.length
    · simp [h, c]
    · simp [h, c]
  · simp [h]
section
variable {P : Program} {w : World} {K : PySem.W.Frag} {mg : Str → Option Value} {base : Heap} {Z : Ad}
def spWorths : Sp := fun vs H Q _ => ∃ (D : Addr) (n : Nat) (ks : List (List Nat)), vs = [.ref D, .int n] ∧ KnownAt H D ks ∧ ks.length = n ∧ n ≤ 40 ∧ (∀ k ∈ ks, k.length ≤ 100) ∧ ∀ T U W H', Same H H' → H U = none → H W = none → H' T = some (.tup [.ref U, .ref W]) → KnownAt H' U ks → WorthsAt H' W n ks → Q (.ref T) H'
theorem ok_worths {f : Addr} {fd : FuncData} (F : Fun K "_law_worths" "_law_worths" s__law_worths f fd) (B : Bl Z mg) : FnOk P w K mg base CX0 1 f fd ["_law_known", "_law_many"] spWorths := by
  refine F.ok sc__law_worths (fun vs H Q E h => ?_) (fun cdv A outer s H vs Q E hr h => ?_)
  · obtain ⟨D, n, ks, rfl, _⟩ := h
    rfl
  · obtain ⟨D, n, ks, rfl, ⟨bs, eD, ts⟩, hn, h40, hk, q⟩ := h
    refine ⟨_, (pss_cons (ps_set (i := 2) sc__law_worths.nd rfl (Or.inl rfl) (pe_lock (pe_callTy (call_dictPK (K := K) rfl rfl) (by rfl) B.b_dict (by decide +kernel) (pa_cons (pe_lc (own := [("_law_block", 5)]) rfl sc__law_worths.nd (pi_keys (pv 0)) (blkOk_by (N := ["_law_known", "_law_many", "_law_ups", "_law_lists", "_law_place", "_law_block", "_law_flags", "_law_flag"]) (sc := defScope s__law_worths) (by decide +kernel)) (fun _ _ _ _ _ => (pg_name (i := 5) sc__law_worths.nd rfl (Or.inl rfl))) (fun _ _ _ _ _ => pts_nil) (fun _ _ _ _ _ => (pe_tup (pa_cons (pv 5) (pa_cons (pe_dget (units1 hr) (pv 0) (pv 5) (fun _ _ => rfl)) pa_nil))))) pa_nil))))
 (pss_cons (ps_set (i := 3) sc__law_worths.nd rfl (Or.inl rfl) pe_dnewT)
 (pss_cons (ps_for PassesOwn.never rfl (pi_range1 rfl B.b_range (pa_cons (pe_op op_add (pv 1) pe_int) pa_nil)) (pg_name (i := 4) sc__law_worths.nd rfl (Or.inl rfl)) (pss_one (ps_for PassesOwn.never rfl (pi_range2 rfl B.b_range (pa_cons pe_int (pa_cons (pe_op op_add (pv 1) pe_int) pa_nil))) (pg_name (i := 5) sc__law_worths.nd rfl (Or.inl rfl)) (C8.pss_cut (ps_set (i := 6) sc__law_worths.nd rfl (Or.inr rfl) (pe_lst (pa_cons (pe_cmpR (op_inK (K := K) rfl) (pv 4) (pe_dget (units1 hr) (pv 0) (pv 5) (fun _ _ => rfl)) (by rfl)) (pa_cons (pe_or (pe_cmpR (op_notInK (K := K) rfl) (pv 4) (pe_dget (units1 hr) (pv 0) (pv 5) (fun _ _ => rfl)) (by rfl)) (pe_one (pe_cmpR op_gt (pe_callB (call_lenK (K := K) rfl) (by rfl) B.b_len PySem.boot_len (pa_cons (pe_dget (units1 hr) (pv 0) (pv 5) (fun _ _ => rfl)) pa_nil)) pe_int (nomark _)))) pa_nil))))
 (pss_one (ps_asg (pe_lc (own := [("_law_flag", 7)]) rfl sc__law_worths.nd (pi_tup (pe_tup (pa_cons pe_bl (pa_cons pe_bl pa_nil)))) (blkOk_by (N := ["_law_known", "_law_many", "_law_ups", "_law_lists", "_law_place", "_law_block", "_law_flags", "_law_flag"]) (sc := defScope s__law_worths) (by decide +kernel)) (fun _ _ _ _ _ => (pg_name (i := 7) sc__law_worths.nd rfl (Or.inl rfl))) (fun _ _ _ _ _ => (pts_one (pt_val (pe_ix (ix_listK (K := K) rfl) (pv 6) (pe_callTy call_int (by rfl) B.b_int (by decide +kernel) (pa_cons (pe_not (pv 7)) pa_nil)) (fun _ _ => rfl))))) (fun _ _ _ _ _ => (pv 7))) (pg_sub (pv 3) (pe_tup (pa_cons (pv 4) (pa_cons (pv 5) pa_nil))) (set_dict (units1 hr)))))))))
 (pss_one (ps_ret (pe_tup (pa_cons (pv 2) (pa_cons (pv 3) pa_nil)))))))), ?_⟩
    have bl : bs.length = ks.length := ts.1
    walk_at "h0"
    refine x_lock eD True.intro fun od => ?_
    have eF : upd H D (.frz od (.dK (kdl 1 (refs bs)))) D = some (.frz od (.dK (kdl 1 (refs bs)))) := upd_same
    have ts3 := ts.but (but_frz (H := H) (d := D) (o := .frz od (.dK (kdl 1 (refs bs))))) (fun xs z => by rw [eD] at z; cases z)
    have back : ∀ H', Same (upd H D (.frz od (.dK (kdl 1 (refs bs))))) H' → Same H (upd H' D (.dK (kdl 1 (refs bs)))) := fun H' s => same_unlock eD s
    have fre : ∀ a, upd H D (.frz od (.dK (kdl 1 (refs bs)))) a = none → H a = none := fun a h => by
      by_cases z : a = D
      · subst z
        rw [upd_same] at h
        cases h
      · rwa [upd_ne z] at h
    generalize upd H D (.frz od (.dK (kdl 1 (refs bs)))) = H1 at eF ts3 back fre ⊢
    walk_at "hs"
    refine x_keysV rfl eF fun L nL => ?_
    refine lc_it (walk_keys (d := D) (o := od) (kvs := kdl 1 (refs bs))) (fun i G => Same H1 G ∧ ∃ ps : List Addr, ps.length = i ∧ G L = some (.lst (refs ps)) ∧ PsAt G 1 ps (bs.take i))
      ⟨same_new (Same.refl _) nL, [], rfl, upd_same, rfl, fun i p a h => nomatch h⟩ (fun i G _ h => h.1 _ _ eF) ?_ ?_
    · rintro i x5 G G' hi ⟨s4, ps, lp, eL, pa⟩ ⟨rfl, k, v, ek, rfl⟩
      obtain ⟨rfl, ev⟩ := kdl_at ek
      rw [kdl_len, refs_length] at hi
      walk_at "hs"
      refine ⟨rfl, ?_⟩
      walk_at "hs"
      refine ⟨D, _, rfl, dgetN (.inr ⟨od, s4 _ _ eF⟩) (refs_get (List.getElem?_eq_getElem hi)) rfl, ?_⟩
      walk_at "hs"
      intro T nT
      have s5 : Same G' (upd G' T (.tup [kV (Sum.inl ((1 + i : Nat) : Int)), .ref bs[i]])) := same_new (Same.refl _) nT
      have eT : upd G' T (.tup [kV (Sum.inl ((1 + i : Nat) : Int)), .ref bs[i]]) T = some (.tup [kV (Sum.inl ((1 + i : Nat) : Int)), .ref bs[i]]) := upd_same
      generalize upd G' T (.tup [kV (Sum.inl ((1 + i : Nat) : Int)), .ref bs[i]]) = G5 at s5 eT ⊢
      walk_at "hs"
      have eL5 := s5 _ _ eL
      have b6 : But L G5 (upd G5 L (.lst (refs ps ++ [.ref T]))) := But.mut (But.refl _ _)
      have nt : ∀ xs, G5 L ≠ some (.tup xs) := fun xs z => by rw [eL5] at z; cases z
      have neT : T ≠ L := fun z => by rw [z, eL5] at eT; cases eT
      refine ⟨_, eL5, szLt (by rw [refs_length]; omega), same_mut (s4.trans s5) nL, ps ++ [T], by rw [List.length_append, lp]; rfl, ?_, ?_⟩
      · rw [upd_same, refs_snoc]
      · rw [List.take_add_one, List.getElem?_eq_getElem hi]
        exact ((pa.same s5).but b6 nt).snoc (by rw [lp]) (b6 _ _ neT eT)
    rintro G ⟨s4, ps, lp, eL, pa⟩
    rw [kdl_len, refs_length, List.take_length] at pa
    walk_at "hs"
    refine ⟨L, ps, _, rfl, .of eL, pa.dict, ?_⟩
    rw [kdl_fresh]
    intro U nU
    have eFG := s4 _ _ eF
    have neU : U ≠ D := fun z => by rw [z, eFG] at nU; cases nU
    refine ⟨by rw [upd_ne (Ne.symm neU)]; exact eFG, ?_⟩
    have s5 : Same H (upd (upd G U (.dK (kdl 1 (refs bs)))) D (.dK (kdl 1 (refs bs)))) := back _ (s4.trans (same_new (Same.refl _) nU))
    have eU : upd (upd G U (.dK (kdl 1 (refs bs)))) D (.dK (kdl 1 (refs bs))) U = some (.dK (kdl 1 (refs bs))) := by
      rw [upd_ne neU]
      exact upd_same
    have fU := fre _ (s4.free nU)
    generalize upd (upd G U (.dK (kdl 1 (refs bs)))) D (.dK (kdl 1 (refs bs))) = H5 at s5 eU ⊢
    have ts5 := ts.same s5
    have eD5 := s5 _ _ eD
    clear s4 eL pa lp nL nU eF ts3 back fre eFG
    walk_at "hs"
    intro W nW
    have s6 : Same H5 (upd H5 W (.dT [])) := same_new (Same.refl _) nW
    have eW : upd H5 W (.dT []) W = some (.dT []) := upd_same
    generalize upd H5 W (.dT []) = H6 at s6 eW ⊢
    have fW := s5.free nW
    have ts6 := ts5.same s6
    have eD6 := s6 _ _ eD5
    have eU6 := s6 _ _ eU
    have sH6 := s5.trans s6
    have nWD : D ≠ W := fun z => by rw [z, eW] at eD6; cases eD6
    have nWU : U ≠ W := fun z => by rw [z, eW] at eU6; cases eU6
    have ntW : ∀ xs, H6 W ≠ some (.tup xs) := fun xs z => by rw [eW] at z; cases z
    clear s5 s6 eU ts5 eD5
    walk_at "hs"
    refine ⟨(n : Int) + 1, rfl, by omega, by omega, ?_⟩
    refine lp_range (lo := 0) (n := Int.toNat ((n : Int) + 1)) (fun i σ' H' => (∃ x4 x5 x6 x7, σ' = [some (.ref D), some (.int n), some (.ref U), some (.ref W), x4, x5, x6, x7]) ∧ Same H H' ∧ But W H6 H' ∧ ∃ as : List Addr, as.length = i * n ∧ H' W = some (.dT (wdl n 0 as)) ∧ BsAt H' as n ks)
      ⟨⟨_, _, _, _, rfl⟩, sH6, But.refl _ _, [], by rw [Nat.zero_mul]; rfl, eW, fun j a h => nomatch h⟩ ?_ ?_
    · rintro i σ' H' hi ⟨⟨x4, x5, x6, x7, rfl⟩, s1, b1, as, la, eW1, ba⟩
      have hin : i ≤ n := by omega
      have lim : i * n ≤ 40 * 40 := Nat.mul_le_mul (by omega) h40
      walk_at "hs"
      refine ⟨1, (n : Int) + 1, rfl, ⟨by omega, by omega, by omega, by omega⟩, ?_⟩
      refine lp_range (lo := 1) (n := Int.toNat ((n : Int) + 1 - 1)) (fun j σ2 H2 => (∃ x5 x6 x7, σ2 = [some (.ref D), some (.int n), some (.ref U), some (.ref W), some (.int (0 + (i : Nat))), x5, x6, x7]) ∧ Same H H2 ∧ But W H6 H2 ∧ ∃ as : List Addr, as.length = i * n + j ∧ H2 W = some (.dT (wdl n 0 as)) ∧ BsAt H2 as n ks)
        ⟨⟨_, _, _, rfl⟩, s1, b1, as, la, eW1, ba⟩ ?_ ?_
      · clear s1 b1 eW1 ba la as
        rintro j σ2 H2 hj ⟨⟨x5, x6, x7, rfl⟩, s1, b1, as, la, eW1, ba⟩
        have hjn : j < n := by omega
        have hjk : j < ks.length := by omega
        obtain ⟨b, hb, eb⟩ := (ts6.but b1 ntW).get hjk
        have eD2 := b1 _ _ nWD eD6
        have i0 : (0 : Int) + (i : Nat) = (i : Nat) := by omega
        rw [i0]
        have kl := hk _ (List.getElem_mem hjk)
        have tb : SqT K H2 b (nats ks[j]) := .of eb
        walk_at "hs"
        refine ⟨fun σ3 H3 => ∃ (Fl : Addr) (x7 : Option V), σ3 = [some (.ref D), some (.int n), some (.ref U), some (.ref W), some (.int (i : Nat)), some (.int (1 + (j : Nat))), some (.ref Fl), x7] ∧ Same H2 H3 ∧ H3 Fl = some (.lst [.bl (decide (i ∈ ks[j])), .bl (!decide (i ∈ ks[j]) || decide (1 < ks[j].length))]), ?_, ?_⟩
        · walk_at "hs"
          refine ⟨D, _, rfl, dgetN (.inl eD2) (refs_get hb) (by omega), ?_⟩
          refine x_inNT tb ?_
          walk_at "hs"
          refine ⟨D, _, rfl, dgetN (.inl eD2) (refs_get hb) (by omega), ?_⟩
          refine x_ninNT tb ?_
          walk_at "hs"
          refine x_isnd (fun c => ?_) (fun c => ?_)
          · walk_at "hs"
            intro Fl nF
            have s3 : Same H2 (upd H2 Fl (.lst [.bl (decide (i ∈ ks[j])), .bl true])) := same_new (Same.refl _) nF
            have eF : upd H2 Fl (.lst [.bl (decide (i ∈ ks[j])), .bl true]) Fl = some (.lst [.bl (decide (i ∈ ks[j])), .bl true]) := upd_same
            generalize upd H2 Fl (.lst [.bl (decide (i ∈ ks[j])), .bl true]) = H3 at s3 eF ⊢
            walk_at "hs"
            refine ⟨Fl, _, rfl, s3, ?_⟩
            rw [eF, decide_eq_false c]
            rfl
          · walk_at "hs"
            refine ⟨D, _, rfl, dgetN (.inl eD2) (refs_get hb) (by omega), ?_⟩
            walk_at "hs"
            rw [nats_length]
            intro Fl nF
            have s3 : Same H2 (upd H2 Fl (.lst [.bl (decide (i ∈ ks[j])), .bl (decide ((1 : Int) < (ks[j].length : Nat)))])) := same_new (Same.refl _) nF
            have eF : upd H2 Fl (.lst [.bl (decide (i ∈ ks[j])), .bl (decide ((1 : Int) < (ks[j].length : Nat)))]) Fl = some (.lst [.bl (decide (i ∈ ks[j])), .bl (decide ((1 : Int) < (ks[j].length : Nat)))]) := upd_same
            generalize upd H2 Fl (.lst [.bl (decide (i ∈ ks[j])), .bl (decide ((1 : Int) < (ks[j].length : Nat)))]) = H3 at s3 eF ⊢
            walk_at "hs"
            refine ⟨Fl, _, rfl, s3, ?_⟩
            rw [eF, decide_eq_true c, show decide ((1 : Int) < (ks[j].length : Nat)) = decide (1 < ks[j].length) by rw [decide_eq_decide]; omega]
            rfl
        · rintro σ3 H3 ⟨Fl, x7, rfl, s3, eFl⟩
          walk_at "hs"
          intro tf ntf
          have s4 : Same H3 (upd H3 tf (.tup [.bl true, .bl false])) := same_new (Same.refl _) ntf
          have etf : upd H3 tf (.tup [.bl true, .bl false]) tf = some (.tup [.bl true, .bl false]) := upd_same
          generalize upd H3 tf (.tup [.bl true, .bl false]) = H4 at s4 etf ⊢
          refine ⟨tf, rfl, ⟨_, SqT.of etf⟩, fun L nL => ?_⟩
          refine lc_tup (K := K) (xs := [.bl true, .bl false]) (fun m G => Same H4 G ∧ G L = some (.lst (bls (([true, false].take m).filter fun f => if f = true then decide (i ∈ ks[j]) else (!decide (i ∈ ks[j]) || decide (1 < ks[j].length))))))
            ⟨same_new (Same.refl _) nL, upd_same⟩ (fun m G _ h => .of (h.1 _ _ etf)) ?_ ?_
          · rintro m v G hv ⟨s5, eL⟩
            have sF : SqL K G Fl [.bl (decide (i ∈ ks[j])), .bl (!decide (i ∈ ks[j]) || decide (1 < ks[j].length))] := .of (s5 _ _ (s4 _ _ eFl))
            match m, hv with
            | 0, hv =>
              cases hv
              walk_at "hs"
              refine ⟨rfl, ?_⟩
              walk_at "hs"
              refine .inr ⟨_, rfl, ?_⟩
              show rIxL K (V.ref Fl) (.int ((0 : Nat) : Int)) _ _
              walk_at "hs"
              refine x_isd (fun c => ?_) (fun c => ?_)
              · walk_at "hs"
                refine ⟨_, eL, by rw [sizeLine_eq]; show 0 < _; omega, same_mut s5 nL, ?_⟩
                rw [upd_same]
                simp [bls, c]
              · refine ⟨s5, ?_⟩
                rw [eL]
                simp [bls, c]
            | 1, hv =>
              cases hv
              walk_at "hs"
              refine ⟨rfl, ?_⟩
              walk_at "hs"
              refine .inr ⟨_, rfl, ?_⟩
              show rIxL K (V.ref Fl) (.int ((1 : Nat) : Int)) _ _
              walk_at "hs"
              have two : ∀ F : Bool → Bool, ([true, false].take (1 + 1)).filter F = ([true, false].take 1).filter F ++ if F false = true then [false] else [] := fun F => by
                show [true, false].filter F = [true].filter F ++ _
                rw [show [true, false] = [true] ++ [false] from rfl, List.filter_append]
                by_cases z : F false = true
                · rw [if_pos z, List.filter_cons_of_pos z]
                  rfl
                · rw [if_neg z, List.filter_cons_of_neg z]
                  rfl
              have le1 : ∀ F : Bool → Bool, (bls (([true, false].take 1).filter F)).length ≤ 1 := fun F => by
                unfold bls
                rw [List.length_map]
                exact List.length_filter_le F [true]
              rw [two]
              split
              · rename_i c
                walk_at "hs"
                refine ⟨_, eL, szLt (Nat.le_trans (Nat.succ_le_succ (le1 _)) (by decide)), same_mut s5 nL, ?_⟩
                rw [upd_same, if_pos (by simpa using c)]
                unfold bls
                rw [List.map_append]
                rfl
              · rename_i c
                refine ⟨s5, ?_⟩
                rw [eL, if_neg (by simpa using c), List.append_nil]
            | m + 2, hv => cases hv
          · rintro G ⟨s5, eL⟩
            have eL2 : G L = some (.lst (bls (worthL ks[j] i))) := by rw [worthL_filter]; exact eL
            walk_at "hs"
            intro kt nkt
            have s6 : Same G (upd G kt (.tup [.int (i : Nat), .int (1 + (j : Nat))])) := same_new (Same.refl _) nkt
            have ekt : upd G kt (.tup [.int (i : Nat), .int (1 + (j : Nat))]) kt = some (.tup [.int (i : Nat), .int (1 + (j : Nat))]) := upd_same
            generalize upd G kt (.tup [.int (i : Nat), .int (1 + (j : Nat))]) = G6 at s6 ekt ⊢
            have s26 := s3.trans (s4.trans (s5.trans s6))
            have eW6 := s26 _ _ eW1
            have key : keyW n as.length = [Sum.inl ((i : Nat) : Int), Sum.inl ((j + 1 : Nat) : Int)] := by rw [la]; exact keyW_at hjn
            refine ⟨W, _, rfl, .inr ⟨wdl n 0 as, keyW n as.length, kt, eW6, rfl, ?_, ?_, rfl⟩, ?_⟩
            · rw [ekt, key]
              show some (HO.tup [V.int (i : Nat), V.int (1 + (j : Nat))]) = some (HO.tup [V.int (i : Nat), V.int ((j + 1 : Nat) : Int)])
              rw [show (1 : Int) + (j : Nat) = ((j + 1 : Nat) : Int) by omega]
            · rw [wdl_len, la, sizeLine_eq]
              omega
            · rw [wdl_snoc]
              have b7 : But W G6 (upd G6 W (.dT (wdl n 0 (as ++ [L])))) := But.mut (But.refl _ _)
              have nlW : ∀ xs, G6 W ≠ some (.lst xs) := fun xs z => by rw [eW6] at z; cases z
              have eL6 := s6 _ _ eL2
              have nLW : L ≠ W := fun z => by rw [z, eW6] at eL6; cases eL6
              refine ⟨⟨_, _, _, rfl⟩, same_mut (s1.trans s26) fW, (b1.trans (But.of s26)).trans b7, as ++ [L], by rw [List.length_append, la]; rfl, upd_same, ?_⟩
              refine ((ba.same s26).but b7 nlW).snoc ?_
              have e1 : as.length % n = j := by rw [la, Nat.mul_comm i n, Nat.mul_add_mod, Nat.mod_eq_of_lt hjn]
              have e2 : as.length / n = i := by rw [la, Nat.mul_comm i n, Nat.mul_add_div (by omega), Nat.div_eq_of_lt hjn, Nat.add_zero]
              rw [e1, e2, List.getD_eq_getElem?_getD, List.getElem?_eq_getElem hjk]
              exact b7 _ _ nLW eL6
      · rintro σ2 H2 ⟨⟨x5, x6, x7, rfl⟩, s2, b2, as2, la2, eW2, ba2⟩
        have en : i * n + Int.toNat ((n : Int) + 1 - 1) = (i + 1) * n := by
          rw [show Int.toNat ((n : Int) + 1 - 1) = n by omega, Nat.succ_mul]
        rw [en] at la2
        exact ⟨⟨_, _, _, _, rfl⟩, s2, b2, as2, la2, eW2, ba2⟩
    · rintro σ' H2 ⟨⟨x4, x5, x6, x7, rfl⟩, s2, b2, as, la, eW2, ba⟩
      walk_at "hs"
      intro T nT
      have s7 : Same H2 (upd H2 T (.tup [.ref U, .ref W])) := same_new (Same.refl _) nT
      have eT : upd H2 T (.tup [.ref U, .ref W]) T = some (.tup [.ref U, .ref W]) := upd_same
      generalize upd H2 T (.tup [.ref U, .ref W]) = H7 at s7 eT ⊢
      walk_at "hs"
      have la2 : as.length = (n + 1) * n := by rw [la, show Int.toNat ((n : Int) + 1) = n + 1 by omega]
      exact q T U W _ (s2.trans s7) fU fW eT ⟨bs, s7 _ _ (b2 _ _ nWU eU6), (ts6.but b2 ntW).same s7⟩ ⟨as, la2, s7 _ _ eW2, ba.same s7⟩
end
set_option maxRecDepth 100000
set_option maxHeartbeats 2000000
open PySem PySem.Spec L2


local macro_rules | `(tactic| walk_at "h1") => `(tactic| first
  | with_reducible refine x_dget ?_
  | with_reducible refine x_dc ?_
  | with_reducible refine x_keysF ?_
  | with_reducible refine x_keysFT ?_)

theorem sc__law_all : FnScope ["_law_due", "_law_many", "_law_first", "_law_second", "_law_found", "_law_block", "_law_pair"] ["_law_due", "_law_many"] (defScope s__law_all) := ⟨rfl, rfl, rfl, by decide +kernel, rfl, by decide +kernel, by decide +kernel⟩
theorem prodR_add (f : Nat → Nat) (a : Nat) : ∀ b, prodR f (a + b) = prodR f a * prodR (fun i => f (a + i)) b
  | 0 => (Nat.mul_one _).symm
  | b + 1 => by
    show prodR f (a + b) * f (a + b) = prodR f a * (prodR (fun i => f (a + i)) b * f (a + b))
    rw [prodR_add f a b, Nat.mul_assoc]
theorem prodR_grid (f : Nat → Nat → Nat) {n : Nat} (h : 0 < n) : ∀ m, prodR (fun j => f (j / n) (j % n)) (m * n) = prodR (fun p => prodR (fun c => f p c) n) m
  | 0 => by
    rw [Nat.zero_mul]
    rfl
  | m + 1 => by
    rw [Nat.succ_mul, prodR_add, prodR_grid f h m]
    show _ = prodR (fun p => prodR (fun c => f p c) n) m * prodR (fun c => f m c) n
    congr 1
    refine prodR_congr fun i hi => ?_
    show f ((m * n + i) / n) ((m * n + i) % n) = f m i
    rw [Nat.mul_comm m n, Nat.mul_add_div h, Nat.div_eq_of_lt hi, Nat.add_zero, Nat.mul_add_mod, Nat.mod_eq_of_lt hi]
theorem bls_len (l : List Bool) : (bls l).length = l.length := List.length_map ..
theorem worthL_le (k : List Nat) (p : Nat) : (worthL k p).length ≤ 2 := by
  rw [worthL_filter]
  exact List.length_filter_le _ [true, false]
section
variable {P : Program} {w : World} {K : PySem.W.Frag} {mg : Str → Option Value} {base : Heap} {Z : Ad}
def spAllN : Sp := fun vs H Q _ => ∃ (D : Addr) (n : Nat) (ks : List (List Nat)), vs = [.ref D, .int n] ∧ KnownAt H D ks ∧ ks.length = n ∧ 1 ≤ n ∧ n ≤ 40 ∧ (∀ k ∈ ks, k.length ≤ 100) ∧ ∀ H', Same H H' → Q (.int (allN n ks : Nat)) H'
theorem ok_allN {f : Addr} {fd : FuncData} (F : Fun K "_law_all" "_law_all" s__law_all f fd) (B : Bl Z mg) {f__law_worths : Addr} {fd__law_worths : FuncData} (C__law_worths : Cal K mg "_law_worths" f__law_worths fd__law_worths ["_law_known", "_law_many"]) (G__law_worths : FnOk P w K mg base CX0 1 f__law_worths fd__law_worths ["_law_known", "_law_many"] spWorths) : FnOk P w K mg base CX0 2 f fd ["_law_due", "_law_many"] spAllN := by
  refine F.ok sc__law_all (fun vs H Q E h => ?_) (fun cdv A outer s H vs Q E hr h => ?_)
  · obtain ⟨D, n, ks, rfl, _⟩ := h
    rfl
  · obtain ⟨D, n, ks, rfl, kn, hn, n1, h40, hk, q⟩ := h
    refine ⟨_, (pss_cons (ps_asg (pe_call G__law_worths (hr.mono (by first | decide | omega)) (by rfl) C__law_worths.g C__law_worths.k C__law_worths.b .nil pass0 (pa_cons (pv 0) (pa_cons (pv 1) pa_nil))) (pg_tup rfl (pgs_cons (pg_name (i := 2) sc__law_all.nd rfl (Or.inl rfl)) (pgs_cons (pg_name (i := 3) sc__law_all.nd rfl (Or.inl rfl)) pgs_nil))))
 (pss_cons (ps_set (i := 4) sc__law_all.nd rfl (Or.inl rfl) pe_int)
 (pss_cons (ps_for PassesOwn.never rfl (pi_keysF (pv 2)) (pg_name (i := 5) sc__law_all.nd rfl (Or.inl rfl)) (pss_one (ps_set (i := 4) sc__law_all.nd rfl (Or.inl rfl) (pe_op op_mul (pv 4) (pe_callB (call_lenK (K := K) rfl) (by rfl) B.b_len PySem.boot_len (pa_cons (pe_dget (units1 hr) (pv 2) (pv 5) (fun _ _ => rfl)) pa_nil))))))
 (pss_cons (ps_for PassesOwn.never rfl (pi_keysFT (pv 3)) (pg_name (i := 6) sc__law_all.nd rfl (Or.inl rfl)) (pss_one (ps_set (i := 4) sc__law_all.nd rfl (Or.inl rfl) (pe_op op_mul (pv 4) (pe_callB (call_lenK (K := K) rfl) (by rfl) B.b_len PySem.boot_len (pa_cons (pe_dget (units1 hr) (pv 3) (pv 6) (fun _ _ => rfl)) pa_nil))))))
 (pss_one (ps_ret (pv 4))))))), ?_⟩
    walk_at "h0"
    refine ⟨D, n, ks, rfl, kn, hn, h40, hk, fun T U W H1 s1 fU fW eT ku kw => ?_⟩
    obtain ⟨bs, eU, ts⟩ := ku
    obtain ⟨as, la, eW, ba⟩ := kw
    have sT : SqT K H1 T [.ref U, .ref W] := .of eT
    have nUW : W ≠ U := fun z => by rw [z, eU] at eW; cases eW
    walk_at "hs"
    refine ⟨U, _, rfl, eU, fun o => ?_⟩
    have eF : upd H1 U (.frz o (.dK (kdl 1 (refs bs)))) U = some (.frz o (.dK (kdl 1 (refs bs)))) := upd_same
    have s3 : Same H (upd H1 U (.frz o (.dK (kdl 1 (refs bs))))) := same_mut s1 fU
    have bF := but_frz (H := H1) (d := U) (o := .frz o (.dK (kdl 1 (refs bs))))
    have ts3 := ts.but bF (fun xs z => by rw [eU] at z; cases z)
    have eW3 := bF _ _ nUW eW
    have ba3 := ba.but bF (fun xs z => by rw [eU] at z; cases z)
    generalize upd H1 U (.frz o (.dK (kdl 1 (refs bs)))) = H3 at eF s3 ts3 eW3 ba3 ⊢
    have bl : bs.length = ks.length := ts.1
    clear bF eW ba ts eU sT
    refine lp_it (walk_keys (d := U) (o := o) (kvs := kdl 1 (refs bs))) (fun i σ' G => (∃ x5 x6, σ' = [some (.ref D), some (.int n), some (.ref U), some (.ref W), some (.int (prodR (fun i => (ks.getD i []).length) i : Nat)), x5, x6]) ∧ G = H3)
      ⟨⟨_, _, rfl⟩, rfl⟩ (fun i σ G _ h => h.2 ▸ eF) ?_ ?_
    · rintro i x5 σ' G G' hi ⟨⟨x3, x4, rfl⟩, rfl⟩ ⟨rfl, k, v, ek, rfl⟩
      obtain ⟨rfl, ev⟩ := kdl_at ek
      rw [kdl_len, refs_length, bl] at hi
      obtain ⟨b, hb, eb⟩ := ts3.get hi
      have sb : SqT K G' b (nats ks[i]) := .of eb
      have sm := hk _ (List.getElem_mem hi)
      walk_at "hs"
      refine ⟨U, _, rfl, dgetN (.inr ⟨o, eF⟩) (refs_get hb) rfl, ?_⟩
      walk_at "hs"
      rw [nats_length]
      have e : prodR (fun i => (ks.getD i []).length) (i + 1) = prodR (fun i => (ks.getD i []).length) i * ks[i].length := by
        show prodR _ i * (ks.getD i []).length = _
        rw [List.getD_eq_getElem?_getD, List.getElem?_eq_getElem hi]
        rfl
      rw [e, Int.natCast_mul (prodR _ i) _]
      exact ⟨_, _, rfl, rfl, .inr ⟨by omega, by omega⟩, ⟨_, _, rfl⟩, rfl⟩
    · rintro σ' G ⟨⟨x3, x4, rfl⟩, rfl⟩
      rw [kdl_len, refs_length, bl]
      walk_at "hs"
      refine ⟨W, _, rfl, eW3, fun o2 => ?_⟩
      have eF2 : upd G W (.frz o2 (.dT (wdl n 0 as))) W = some (.frz o2 (.dT (wdl n 0 as))) := upd_same
      have s4 : Same H (upd G W (.frz o2 (.dT (wdl n 0 as)))) := same_mut s3 fW
      have ba4 := ba3.but (but_frz (H := G) (d := W) (o := .frz o2 (.dT (wdl n 0 as)))) (fun xs z => by rw [eW3] at z; cases z)
      generalize upd G W (.frz o2 (.dT (wdl n 0 as))) = H4 at eF2 s4 ba4 ⊢
      refine lp_it (walk_keysT (d := W) (o := o2) (kvs := wdl n 0 as)) (fun i σ' G => (∃ x5 x6, σ' = [some (.ref D), some (.int n), some (.ref U), some (.ref W), some (.int (prodR (fun i => (ks.getD i []).length) ks.length * prodR (fun j => (worthL (ks.getD (j % n) []) (j / n)).length) i : Nat)), x5, x6]) ∧ G = H4)
        ⟨⟨x3, x4, ?_⟩, rfl⟩ (fun i σ G _ h => h.2 ▸ eF2) ?_ ?_
      · show _ = [_, _, _, _, some (V.int ((prodR _ ks.length * 1 : Nat) : Int)), _, _]
        rw [Nat.mul_one]
      · rintro i x5 σ' G2 G3 hi ⟨⟨x3, x4, rfl⟩, rfl⟩ ⟨rfl, k, v, p, ek, rfl, ep⟩
        obtain ⟨rfl, a, ha, rfl⟩ := wdl_at ek
        have eb := ba4 i a ha
        have sb : SqL K G3 a (bls (worthL (ks.getD (i % n) []) (i / n))) := .of eb
        have sm := worthL_le (ks.getD (i % n) []) (i / n)
        walk_at "hs"
        refine ⟨W, _, rfl, .inr ⟨_, _, p, .inr ⟨o2, eF2⟩, rfl, ep, (wdl_val ha).symm⟩, ?_⟩
        walk_at "hs"
        rw [bls_len]
        have e : prodR (fun i => (ks.getD i []).length) ks.length * prodR (fun j => (worthL (ks.getD (j % n) []) (j / n)).length) (i + 1) = prodR (fun i => (ks.getD i []).length) ks.length * prodR (fun j => (worthL (ks.getD (j % n) []) (j / n)).length) i * (worthL (ks.getD (i % n) []) (i / n)).length := by
          rw [Nat.mul_assoc]
          rfl
        rw [e, Int.natCast_mul (_ * _) _]
        exact ⟨_, _, rfl, rfl, .inr ⟨by omega, by omega⟩, ⟨_, _, rfl⟩, rfl⟩
      · rintro σ' G2 ⟨⟨x3, x4, rfl⟩, rfl⟩
        rw [wdl_len, la, prodR_grid (fun p c => (worthL (ks.getD c []) p).length) (by omega)]
        walk_at "hs"
        have := q _ s4
        unfold allN at this
        rw [hn] at this ⊢
        exact this
end
set_option maxRecDepth 100000
set_option maxHeartbeats 2000000
open PySem PySem.Spec L2


local macro_rules | `(tactic| walk_at "h1") => `(tactic| first
  | with_reducible refine x_dget ?_
  | with_reducible refine x_dc ?_
  | with_reducible refine x_keysF ?_
  | with_reducible refine x_keysFT ?_)

theorem sc__law_stands : FnScope ["_law_due", "_law_many", "_law_ups", "_law_lists", "_law_first", "_law_second", "_law_block", "_law_place"] ["_law_due", "_law_many", "_law_ups", "_law_lists"] (defScope s__law_stands) := ⟨rfl, rfl, rfl, by decide +kernel, rfl, by decide +kernel, by decide +kernel⟩
theorem stands_no {us : List (Option Nat)} {ls : List (List (Option Bool))} {ks : List (List Nat)} {i : Nat} (hi : i < ks.length) (h : canB us ls (i + 1) ks[i] = false) : (standsN us ls ks).all (fun b => b) = false := by
  refine Bool.eq_false_iff.mpr fun z => ?_
  have m : canB us ls (i + 1) ks[i] ∈ standsN us ls ks := by
    unfold standsN
    refine List.mem_map.mpr ⟨i, List.mem_range.mpr hi, ?_⟩
    rw [List.getD_eq_getElem?_getD, List.getElem?_eq_getElem hi]
    rfl
  have := List.all_eq_true.mp z _ m
  rw [h] at this
  cases this
theorem stands_yes {us : List (Option Nat)} {ls : List (List (Option Bool))} {ks : List (List Nat)} (h : ∀ i (hi : i < ks.length), canB us ls (i + 1) ks[i] = true) : (standsN us ls ks).all (fun b => b) = true := by
  refine List.all_eq_true.mpr fun b hb => ?_
  unfold standsN at hb
  obtain ⟨i, hi, rfl⟩ := List.mem_map.mp hb
  have hi := List.mem_range.mp hi
  have := h i hi
  rw [List.getD_eq_getElem?_getD, List.getElem?_eq_getElem hi]
  exact this
theorem inV_bls (f : Bool) : ∀ l : List Bool, inV (.bl f) (bls l) = decide (f ∈ l)
  | [] => rfl
  | x :: r => by
    have ih := inV_bls f r
    unfold inV at ih ⊢
    show (_ || List.any (bls r) _) = _
    rw [ih]
    cases f <;> cases x <;> simp [eqV]
theorem flat_bls (l : List Bool) : (bls l).all flatV = true := List.all_eq_true.mpr fun v hv => by
  obtain ⟨b, _, rfl⟩ := List.mem_map.mp hv
  rfl
section
variable {P : Program} {w : World} {K : PySem.W.Frag} {mg : Str → Option Value} {base : Heap} {Z : Ad}
theorem x_ninBL {H : Hp} {Q : VK} {a : Addr} {f : Bool} {l : List Bool} (h : SqL K H a (bls l)) (q : Q (.bl (!decide (f ∈ l))) H) : rIn K true (.bl f) (.ref a) H Q := by
  refine ⟨a, _, rfl, .inl h, rfl, flat_bls l, ?_⟩
  show Q (.bl (!inV (.bl f) (bls l))) H
  rw [inV_bls]
  exact q
def spLStand : Sp := fun vs H Q _ => ∃ (D tu tl : Addr) (n : Nat) (ks : List (List Nat)) (us : List (Option Nat)) (ls : List (List (Option Bool))) (rs : List Addr), vs = [.ref D, .int n, .ref tu, .ref tl] ∧ KnownAt H D ks ∧ ks.length = n ∧ (∀ k ∈ ks, k.length ≤ 100) ∧ WdOk n us ls ∧ H tu = some (.tup (upvs us)) ∧ H tl = some (.tup (refs rs)) ∧ Rows H rs ls ∧ ∀ H', Same H H' → Q (.bl ((standsN us ls ks).all fun b => b)) H'
theorem ok_lstand {f : Addr} {fd : FuncData} (F : Fun K "_law_stands" "_law_stands" s__law_stands f fd) (B : Bl Z mg) {f__law_worths : Addr} {fd__law_worths : FuncData} (C__law_worths : Cal K mg "_law_worths" f__law_worths fd__law_worths ["_law_known", "_law_many"]) (G__law_worths : FnOk P w K mg base CX0 1 f__law_worths fd__law_worths ["_law_known", "_law_many"] spWorths) : FnOk P w K mg base CX0 2 f fd ["_law_due", "_law_many", "_law_ups", "_law_lists"] spLStand := by
  refine F.ok sc__law_stands (fun vs H Q E h => ?_) (fun cdv A outer s H vs Q E hr h => ?_)
  · obtain ⟨D, tu, tl, n, ks, us, ls, rs, rfl, _⟩ := h
    rfl
  · obtain ⟨D, tu, tl, n, ks, us, ls, rs, rfl, kn, hn, hk, ok, hu, hl, rw_, q⟩ := h
    refine ⟨_, (pss_cons (ps_asg (pe_call G__law_worths (hr.mono (by first | decide | omega)) (by rfl) C__law_worths.g C__law_worths.k C__law_worths.b .nil pass0 (pa_cons (pv 0) (pa_cons (pv 1) pa_nil))) (pg_tup rfl (pgs_cons (pg_name (i := 4) sc__law_stands.nd rfl (Or.inl rfl)) (pgs_cons (pg_name (i := 5) sc__law_stands.nd rfl (Or.inl rfl)) pgs_nil))))
 (pss_cons (ps_for PassesOwn.never rfl (pi_range2 rfl B.b_range (pa_cons pe_int (pa_cons (pe_op op_add (pv 1) pe_int) pa_nil))) (pg_name (i := 6) sc__law_stands.nd rfl (Or.inl rfl)) (C8.pss_cut (ps_if (PW.pt (pw_and (pt_cmpR op_notNk (pe_ix (ix_tupK (K := K) rfl) (pv 2) (pe_op op_sub (pv 6) pe_int) (fun _ _ => rfl)) pe_non (nomark _)) (pw_and1 (pt_cmpR (op_notInK (K := K) rfl) (pe_ix (ix_tupK (K := K) rfl) (pv 2) (pe_op op_sub (pv 6) pe_int) (fun _ _ => rfl)) (pe_dget (units1 hr) (pv 4) (pv 6) (fun _ _ => rfl)) (by rfl))))) (pss_one (ps_ret pe_bl)) pss_nil)
 (pss_one (ps_for PassesOwn.never rfl (pi_range1 rfl B.b_range (pa_cons (pe_op op_add (pv 1) pe_int) pa_nil)) (pg_name (i := 7) sc__law_stands.nd rfl (Or.inl rfl)) (pss_one (ps_if (PW.pt (pw_and (pt_cmpR op_notNk (pe_ix (ix_tupK (K := K) rfl) (pe_ix (ix_tupK (K := K) rfl) (pv 3) (pv 7) (fun _ _ => rfl)) (pe_op op_sub (pv 6) pe_int) (fun _ _ => rfl)) pe_non (nomark _)) (pw_and1 (pt_cmpR (op_notInK (K := K) rfl) (pe_ix (ix_tupK (K := K) rfl) (pe_ix (ix_tupK (K := K) rfl) (pv 3) (pv 7) (fun _ _ => rfl)) (pe_op op_sub (pv 6) pe_int) (fun _ _ => rfl)) (pe_dget (units1 hr) (pv 5) (pe_tup (pa_cons (pv 7) (pa_cons (pv 6) pa_nil))) (fun _ _ => rfl)) (by rfl))))) (pss_one (ps_ret pe_bl)) pss_nil))))))
 (pss_one (ps_ret pe_bl)))), ?_⟩
    have n1 := ok.n1
    have n2 := ok.n2
    have asn : rs.length = n + 1 := by rw [rw_.len, ok.ll]
    walk_at "h0"
    refine ⟨D, n, ks, rfl, kn, hn, n2, hk, fun T U W H1 s1 fU fW eT ku kw => ?_⟩
    obtain ⟨bs, eU, ts⟩ := ku
    obtain ⟨as, la, eW, ba⟩ := kw
    have sT : SqT K H1 T [.ref U, .ref W] := .of eT
    walk_at "hs"
    refine ⟨1, (n : Int) + 1, rfl, ⟨by omega, by omega, by omega, by omega⟩, ?_⟩
    refine lp_range (lo := 1) (n := Int.toNat ((n : Int) + 1 - 1)) (fun i σ' H' => (∃ x6 x7, σ' = [some (.ref D), some (.int n), some (.ref tu), some (.ref tl), some (.ref U), some (.ref W), x6, x7]) ∧ Same H1 H' ∧ ∀ j (hj : j < ks.length), j < i → canB us ls (j + 1) ks[j] = true)
      ⟨⟨_, _, rfl⟩, Same.refl _, fun j hj h => by omega⟩ ?_ ?_
    · rintro i σ' H' hi ⟨⟨x6, x7, rfl⟩, s2, all⟩
      have hin : i < n := by omega
      have hik : i < ks.length := by omega
      obtain ⟨b, hb, eb⟩ := (ts.same s2).get hik
      have hub : i < us.length := by rw [ok.ul]; exact hin
      have au : atI (upvs us) (1 + (i : Int) - 1) = some (upV us[i]) := at_pred (upvs_get (List.getElem?_eq_getElem hub))
      have tu5 : SqT K H' tu (upvs us) := .of (s2 _ _ (s1 _ _ hu))
      have tl6 : SqT K H' tl (refs rs) := .of (s2 _ _ (s1 _ _ hl))
      have tb : SqT K H' b (nats ks[i]) := .of eb
      have eU2 := s2 _ _ eU
      have eW2 := s2 _ _ eW
      have up : upOk us (i + 1) ks[i] = (match us[i] with | some q => decide (q ∈ ks[i]) | none => true) := by
        unfold upOk
        rw [Nat.add_sub_cancel, List.getElem?_eq_getElem hub]
        cases us[i] <;> rfl
      have no : canB us ls (i + 1) ks[i] = false → ∀ G, Same H' G → Q (.bl false) G := fun e G sG => by
        have := q G (s1.trans (s2.trans sG))
        rw [stands_no hik e] at this
        exact this
      walk_at "hs"
      refine ⟨fun σ3 H3 => σ3 = [some (.ref D), some (.int n), some (.ref tu), some (.ref tl), some (.ref U), some (.ref W), some (.int (1 + (i : Nat))), x7] ∧ H3 = H' ∧ upOk us (i + 1) ks[i] = true, ?_, ?_⟩
      · cases hu : us[i] with
        | none =>
          rw [hu] at up au
          have au' : atI (upvs us) (1 + (i : Int) - 1) = some .non := au
          walk_at "hs"
          exact ⟨rfl, rfl, up⟩
        | some p =>
          rw [hu] at up au
          have au' : atI (upvs us) (1 + (i : Int) - 1) = some (.int p) := au
          clear au
          walk_at "hs"
          refine ⟨U, _, rfl, dgetN (.inl eU2) (refs_get hb) rfl, ?_⟩
          refine x_ninNT tb ?_
          walk_at "hs"
          refine x_isnd (fun c => ?_) (fun c => ?_)
          · walk_at "hs"
            refine no ?_ _ (Same.refl _)
            unfold canB
            rw [up.trans (decide_eq_false c)]
            rfl
          · walk_at "hs"
            exact ⟨rfl, rfl, up.trans (decide_eq_true c)⟩
      · rintro σ3 H3 ⟨rfl, rfl, upt⟩
        walk_at "hs"
        refine ⟨(n : Int) + 1, rfl, by omega, by omega, ?_⟩
        refine lp_range (lo := 0) (n := Int.toNat ((n : Int) + 1)) (fun m σ4 H4 => (∃ x7, σ4 = [some (.ref D), some (.int n), some (.ref tu), some (.ref tl), some (.ref U), some (.ref W), some (.int (1 + (i : Nat))), x7]) ∧ Same H3 H4 ∧ canCols ks[i] 0 ((col ls (i + 1)).take m) = true)
          ⟨⟨_, rfl⟩, Same.refl _, rfl⟩ ?_ ?_
        · rintro m σ4 H4 hm ⟨⟨x7, rfl⟩, s4, cc⟩
          have hml : m < ls.length := by rw [ok.ll]; omega
          obtain ⟨r, hr2, er⟩ := (rw_.same (s1.trans (s2.trans s4))).get hml
          obtain ⟨o, ho, hc⟩ := col_at (b := i + 1) ok.rl (by omega) (by omega) hml
          rw [Nat.add_sub_cancel] at ho
          have tl7 : SqT K H4 tl (refs rs) := s4.seqT tl6
          have ar : atI (refs rs) (0 + (m : Int)) = some (.ref r) := by
            rw [Int.zero_add]
            exact atI_nat (refs_get hr2)
          have sr : SqT K H4 r (wds ls[m]) := .of er
          have ab : atI (wds ls[m]) (1 + (i : Int) - 1) = some (wdV o) := at_pred (wds_get ho)
          have key := canCols_take (k := ks[i]) hc
          rw [cc, Bool.true_and] at key
          have jj : m * n + i < as.length := by
            rw [la]
            have : m * n ≤ n * n := Nat.mul_le_mul (by omega) (Nat.le_refl _)
            rw [Nat.succ_mul]
            omega
          have ea := (ba.same (s2.trans s4)) _ _ (List.getElem?_eq_getElem jj)
          have e1 : (m * n + i) % n = i := by rw [Nat.mul_comm m n, Nat.mul_add_mod, Nat.mod_eq_of_lt hin]
          have e2 : (m * n + i) / n = m := by rw [Nat.mul_comm m n, Nat.mul_add_div (by omega), Nat.div_eq_of_lt hin, Nat.add_zero]
          rw [e1, e2, List.getD_eq_getElem?_getD, List.getElem?_eq_getElem hik] at ea
          have ea' : H4 as[m * n + i] = some (.lst (bls (worthL ks[i] m))) := ea
          have bad : colOk ks[i] m o = false → ∀ G, Same H4 G → Q (.bl false) G := fun e G sG => no (by
            unfold canB
            rw [canCols_no (i := m) hc (by rw [Nat.zero_add]; exact e), Bool.and_false]) G (s4.trans sG)
          walk_at "hs"
          cases o with
          | none =>
            dsimp only [wdV]
            walk_at "hs"
            exact ⟨⟨_, rfl⟩, s4, key⟩
          | some fl =>
            have ab' : atI (wds ls[m]) (1 + (i : Int) - 1) = some (.bl fl) := ab
            clear ab
            dsimp only [wdV]
            walk_at "hs"
            intro kt nkt
            have s5 : Same H4 (upd H4 kt (.tup [.int (0 + (m : Nat)), .int (1 + (i : Nat))])) := same_new (Same.refl _) nkt
            have ekt : upd H4 kt (.tup [.int (0 + (m : Nat)), .int (1 + (i : Nat))]) kt = some (.tup [.int (0 + (m : Nat)), .int (1 + (i : Nat))]) := upd_same
            generalize upd H4 kt (.tup [.int (0 + (m : Nat)), .int (1 + (i : Nat))]) = G5 at s5 ekt ⊢
            have ekt' : G5 kt = some (.tup ((keyW n (m * n + i)).map kV)) := by
              rw [ekt, keyW_at hin]
              show some (HO.tup [V.int (0 + (m : Nat)), V.int (1 + (i : Nat))]) = some (HO.tup [V.int (m : Nat), V.int ((i + 1 : Nat) : Int)])
              rw [show (0 : Int) + (m : Nat) = (m : Nat) by omega, show (1 : Int) + (i : Nat) = ((i + 1 : Nat) : Int) by omega]
            have vv := wdl_val (n := n) (j := 0) (List.getElem?_eq_getElem jj)
            rw [Nat.zero_add] at vv
            refine ⟨W, _, rfl, .inr ⟨_, keyW n (m * n + i), kt, .inl (s5 _ _ (s4 _ _ eW2)), rfl, ekt', vv.symm⟩, ?_⟩
            refine x_ninBL (.of (s5 _ _ ea')) ?_
            walk_at "hs"
            refine x_isnd (fun c => ?_) (fun c => ?_)
            · walk_at "hs"
              exact bad (by rw [colOk_worth]; exact decide_eq_false c) _ s5
            · walk_at "hs"
              exact ⟨⟨_, rfl⟩, s4.trans s5, key.trans (by rw [colOk_worth]; exact decide_eq_true c)⟩
        · rintro σ4 H4 ⟨⟨x7, rfl⟩, s4, cc⟩
          have cl : (col ls (i + 1)).length = Int.toNat ((n : Int) + 1) := by rw [col_len, ok.ll]; omega
          rw [← cl, List.take_length] at cc
          refine ⟨⟨_, _, rfl⟩, s2.trans s4, fun j hj lt => ?_⟩
          by_cases e : j < i
          · exact all j hj e
          · have e : j = i := by omega
            subst e
            unfold canB
            rw [upt, cc]
            rfl
    · rintro σ' H' ⟨⟨x6, x7, rfl⟩, s2, all⟩
      walk_at "hs"
      have := q H' (s1.trans s2)
      rw [stands_yes fun i hi => all i hi (by omega)] at this
      exact this
end
set_option maxRecDepth 100000
set_option maxHeartbeats 2000000
open PySem PySem.Spec L2


theorem sc__law_tree : FnScope ["_law_hand_here", "_law_many", "_law_left", "_law_places", "_law_found", "_law_block"] ["_law_hand_here", "_law_many"] (defScope s__law_tree) := ⟨rfl, rfl, rfl, by decide +kernel, rfl, by decide +kernel, by decide +kernel⟩
theorem sc__law_row : FnScope ["_law_hung", "_law_place", "_law_found", "_law_here"] ["_law_hung", "_law_place"] (defScope s__law_row) := ⟨rfl, rfl, rfl, by decide +kernel, rfl, by decide +kernel, by decide +kernel⟩
theorem sc__law_beneath : FnScope ["_law_hung", "_law_place", "_law_block"] ["_law_hung", "_law_place"] (defScope s__law_beneath) := ⟨rfl, rfl, rfl, by decide +kernel, rfl, by decide +kernel, by decide +kernel⟩
theorem sc__law_put : FnScope ["_law_hung", "_law_block", "_law_place"] ["_law_hung", "_law_block", "_law_place"] (defScope s__law_put) := ⟨rfl, rfl, rfl, by decide +kernel, rfl, by decide +kernel, by decide +kernel⟩
def inner (hs : List Nat) (b : Nat) : List Nat := (List.range' 1 hs.length).filter fun c => decide (b ∈ c :: way hs c)
theorem inner_mem {hs : List Nat} {b p : Nat} (hp : p ≤ hs.length) (hb : 1 ≤ b) : p ∈ inner hs b ↔ (p = b ∨ b ∈ way hs p) := by
  unfold inner
  rw [List.mem_filter, List.mem_range'_1, decide_eq_true_eq, List.mem_cons]
  constructor
  · rintro ⟨_, h | h⟩
    · exact .inl h.symm
    · exact .inr h
  · intro h
    refine ⟨⟨?_, by omega⟩, h.imp Eq.symm id⟩
    rcases h with rfl | h
    · exact hb
    · refine Nat.one_le_iff_ne_zero.mpr fun e => ?_
      subst e
      obtain ⟨j, _, nz, _⟩ := (way_mem hs b _ _).mp h
      exact nz (upN_zero hs j)
section
variable {P : Program} {w : World} {K : PySem.W.Frag} {mg : Str → Option Value} {base : Heap} {Z : Ad}
def spHungW : Sp := fun vs H Q _ => ∃ (p : Addr) (n : Nat) (F : Addr → Prop), vs = [.ref p, .int n] ∧ PoolAt H p F ∧ 1 ≤ n ∧ n ≤ 40 ∧ ∀ (D : Addr) (hs : List Nat) H', IsTree hs → hs.length = n → But p H H' → PoolAt H' p F → H' D = some (.tup (nats hs)) → Q (.ref D) H'
theorem ok_wtree {f : Addr} {fd : FuncData} (F : Fun K "_law_tree" "_law_tree" s__law_tree f fd) (B : Bl Z mg) {f__law_draw : Addr} {fd__law_draw : FuncData} (C__law_draw : Cal K mg "_law_draw" f__law_draw fd__law_draw ["_law_hand_here", "_law_many"]) (G__law_draw : FnOk P w K mg base CX0 1 f__law_draw fd__law_draw ["_law_hand_here", "_law_many"] spDraw) : FnOk P w K mg base CX0 2 f fd ["_law_hand_here", "_law_many"] spHungW := by
  refine F.ok sc__law_tree (fun vs H Q E h => ?_) (fun cdv A outer s H vs Q E hr h => ?_)
  · obtain ⟨p, n, Fo, rfl, _⟩ := h
    rfl
  · obtain ⟨p, n, Fo, rfl, hp, n1, n2, q⟩ := h
    refine ⟨_, (pss_cons (ps_set (i := 2) sc__law_tree.nd rfl (Or.inl rfl) (pe_listRg rfl (by rfl) B.b_list (prg_2 (by rfl) B.b_range pe_int (pe_op op_add (pv 1) pe_int))))
 (pss_cons (ps_set (i := 3) sc__law_tree.nd rfl (Or.inl rfl) (pe_lst (pa_cons pe_int pa_nil)))
 (pss_cons (ps_set (i := 4) sc__law_tree.nd rfl (Or.inl rfl) (pe_op op_rep (pe_lst (pa_cons pe_int pa_nil)) (pv 1)))
 (pss_cons (ps_while PassesOwn.never (pt_cmpR op_gt (pe_callB (call_lenK (K := K) rfl) (by rfl) B.b_len PySem.boot_len (pa_cons (pv 2) pa_nil)) pe_int (nomark _)) (pss_cons (ps_set (i := 5) sc__law_tree.nd rfl (Or.inl rfl) (pe_bmK (K := K) rfl PySem.F.plainAttrs_list PySem.F.slot_list_pop PySem.F.type_list_pop mt_popAt (pv 2) (pa_cons (pe_call G__law_draw (hr.mono (by first | decide | omega)) (by rfl) C__law_draw.g C__law_draw.k C__law_draw.b .nil pass0 (pa_cons (pv 0) (pa_cons (pe_callB (call_lenK (K := K) rfl) (by rfl) B.b_len PySem.boot_len (pa_cons (pv 2) pa_nil)) pa_nil))) pa_nil)))
 (pss_cons (ps_asg (pe_ix (ix_listK (K := K) rfl) (pv 3) (pe_call G__law_draw (hr.mono (by first | decide | omega)) (by rfl) C__law_draw.g C__law_draw.k C__law_draw.b .nil pass0 (pa_cons (pv 0) (pa_cons (pe_callB (call_lenK (K := K) rfl) (by rfl) B.b_len PySem.boot_len (pa_cons (pv 3) pa_nil)) pa_nil))) (fun _ _ => rfl)) (pg_sub (pv 4) (pe_op op_sub (pv 5) pe_int) set_list))
 (pss_one (ps_expr (pe_bmK (K := K) rfl PySem.F.plainAttrs_list PySem.F.slot_list_append PySem.F.type_list_append mt_append (pv 3) (pa_cons (pv 5) pa_nil)))))))
 (pss_one (ps_ret (pe_callTy (call_tplK (K := K) rfl) (by rfl) B.b_tuple (by decide +kernel) (pa_cons (pv 4) pa_nil)))))))), ?_⟩
    walk_at "h0"
    refine ⟨⟨by omega, by omega, by omega, by omega, by omega⟩, fun L hL => ?_⟩
    rw [rgV_nats]
    walk_at "hs"
    intro O hO
    walk_at "hs"
    intro l1 hl1
    walk_at "hs"
    refine x_rep1 upd_same (by omega) fun R hR => ?_
    rw [nats_rep]
    walk_at "hs"
    have pL := hp.own (o := .lst (nats (List.range' 1 n))) hL
    have pO := pL.own (o := .lst [.int 0]) hO
    have pl := pO.newH (o := .lst [.int 0]) hl1
    have pR := pl.own (o := .lst (nats (List.replicate n 0))) hR
    have nO : O ≠ L := Ne.symm (ne_of_none upd_same hO)
    have eL0 : upd (upd (upd (upd H L (.lst (nats (List.range' 1 n)))) O (.lst [.int 0])) l1 (.lst [.int 0])) R (.lst (nats (List.replicate n 0))) L = some (.lst (nats (List.range' 1 n))) := keepN (keepN (keepN upd_same hO) hl1) hR
    have eO0 : upd (upd (upd (upd H L (.lst (nats (List.range' 1 n)))) O (.lst [.int 0])) l1 (.lst [.int 0])) R (.lst (nats (List.replicate n 0))) O = some (.lst (nats [0])) := keepN (keepN upd_same hl1) hR
    have RL : R ≠ L := Ne.symm (ne_of_none (keepN (keepN upd_same hO) hl1) hR)
    have RO : R ≠ O := Ne.symm (ne_of_none (keepN upd_same hl1) hR)
    have fL : H L = none := hL
    have fO : H O = none := Same.free (H' := upd H L _) (same_new (Same.refl _) hL) hO
    have fl1 : H l1 = none := Same.free (same_new (same_new (Same.refl _) hL) hO) hl1
    have fR : H R = none := Same.free (same_new (same_new (same_new (Same.refl _) hL) hO) hl1) hR
    have b0 : But p H (upd (upd (upd (upd H L (.lst (nats (List.range' 1 n)))) O (.lst [.int 0])) l1 (.lst [.int 0])) R (.lst (nats (List.replicate n 0)))) := ((((But.refl p H).new hL).new hO).new hl1).new hR
    have eR0 := upd_same (H := upd (upd (upd H L (.lst (nats (List.range' 1 n)))) O (.lst [.int 0])) l1 (.lst [.int 0])) (a := R) (o := .lst (nats (List.replicate n 0)))
    generalize upd (upd (upd (upd H L (.lst (nats (List.range' 1 n)))) O (.lst [.int 0])) l1 (.lst [.int 0])) R (.lst (nats (List.replicate n 0))) = H0 at *
    refine ⟨fun mu σ' H' => (∃ x5, σ' = [some (.ref p), some (.int n), some (.ref L), some (.ref O), some (.ref R), x5]) ∧ ∃ ls ms fs : List Nat, mu = ls.length ∧ (ms ++ ls).Perm (List.range' 1 n) ∧ fs.length = n ∧ But p H H' ∧ PoolAt H' p (fun a => a = R ∨ a = O ∨ a = L ∨ Fo a) ∧ H' L = some (.lst (nats ls)) ∧ H' O = some (.lst (nats (0 :: ms))) ∧ H' R = some (.lst (nats fs)) ∧ ∀ (i' x : Nat), ms[i']? = some x → ∃ j y : Nat, j ≤ i' ∧ (0 :: ms)[j]? = some y ∧ fs[x - 1]? = some y,
      ⟨n, ⟨_, rfl⟩, List.range' 1 n, [], List.replicate n 0, by rw [List.length_range'], List.Perm.refl _, List.length_replicate, b0, pR, eL0, eO0, eR0, fun i' x h => by cases h⟩, ?_⟩
    rintro mu σ' H' ⟨⟨x5, rfl⟩, ls, ms, fs, rfl, hpm, hfs, b2, p2, eL, eO, eR, hd⟩
    have hlen : ms.length + ls.length = n := by rw [← List.length_append, hpm.length_eq, List.length_range']
    have sL : SqL K H' L (nats ls) := .of eL
    walk_at "hs"
    rw [nats_length]
    refine x_isd (fun c => ?_) (fun c => ?_)
    · refine ⟨fun σ' H2 => (∃ x5, σ' = [some (.ref p), some (.int n), some (.ref L), some (.ref O), some (.ref R), x5]) ∧ ∃ ks ms fs : List Nat, ks.length < ls.length ∧ (ms ++ ks).Perm (List.range' 1 n) ∧ fs.length = n ∧ But p H H2 ∧ PoolAt H2 p (fun a => a = R ∨ a = O ∨ a = L ∨ Fo a) ∧ H2 L = some (.lst (nats ks)) ∧ H2 O = some (.lst (nats (0 :: ms))) ∧ H2 R = some (.lst (nats fs)) ∧ ∀ (i' x : Nat), ms[i']? = some x → ∃ j y : Nat, j ≤ i' ∧ (0 :: ms)[j]? = some y ∧ fs[x - 1]? = some y,
        fun σ' H2 hN => ?_, ?_⟩
      · obtain ⟨hσ, ks, ms, fs, h1, h2⟩ := hN
        exact ⟨ks.length, h1, hσ, ks, ms, fs, rfl, h2⟩
      walk_at "hs"
      rw [nats_length]
      refine ⟨p, _, _, rfl, p2, by omega, by omega, fun d H2 d0 d1 b3 p3 => ?_⟩
      obtain ⟨k, rfl⟩ := Int.eq_ofNat_of_zero_le d0
      have hk : k < ls.length := by omega
      have eL2 := b3 _ _ (p2.neF (.inr (.inr (.inl rfl)))) eL
      have eO2 := b3 _ _ (p2.neF (.inr (.inl rfl))) eO
      have eR2 := b3 _ _ (p2.neF (.inl rfl)) eR
      walk_at "hs"
      refine x_popAt eL2 (by omega) (by omega) (ixN_nat (by rw [nats_length]; exact hk)) (nats_get (List.getElem?_eq_getElem hk)) ?_
      have eO3 : upd H2 L (.lst ((nats ls).eraseIdx k)) O = some (.lst (nats (0 :: ms))) := keepM nO eO2
      have eR3 : upd H2 L (.lst ((nats ls).eraseIdx k)) R = some (.lst (nats fs)) := keepM RL eR2
      have p4 := p3.mut (o := .lst ((nats ls).eraseIdx k)) (.inr (.inr (.inl rfl)))
      have b4 : But p H (upd H2 L (.lst ((nats ls).eraseIdx k))) := (b2.trans b3).mutF fL
      have eL3 : upd H2 L (.lst ((nats ls).eraseIdx k)) L = some (.lst (nats (ls.eraseIdx k))) := by rw [upd_same, nats_erase]
      have hxm : 1 ≤ ls[k] ∧ ls[k] ≤ n := by
        have := List.mem_range'_1.mp (hpm.mem_iff.mp (List.mem_append.mpr (.inr (List.getElem_mem hk))))
        omega
      generalize upd H2 L (.lst ((nats ls).eraseIdx k)) = H3 at *
      have nl : (nats (0 :: ms)).length = ms.length + 1 := by rw [nats_length, List.length_cons]
      have sO3 : SqL K H3 O (nats (0 :: ms)) := .of eO3
      walk_at "hs"
      rw [nl]
      refine ⟨p, _, _, rfl, p4, by omega, by omega, fun d2 H5 d20 d21 b6 p6 => ?_⟩
      obtain ⟨k2, rfl⟩ := Int.eq_ofNat_of_zero_le d20
      have k2l : k2 < (0 :: ms).length := by rw [List.length_cons]; omega
      have eO5 := b6 _ _ (p4.neF (.inr (.inl rfl))) eO3
      have eL5 := b6 _ _ (p4.neF (.inr (.inr (.inl rfl)))) eL3
      have eR5 := b6 _ _ (p4.neF (.inl rfl)) eR3
      have sO5 : SqL K H5 O (nats (0 :: ms)) := .of eO5
      have at5 : atI (nats (0 :: ms)) (k2 : Int) = some (.int ((0 :: ms)[k2] : Nat)) := atI_nat (nats_get (List.getElem?_eq_getElem k2l))
      have at6 : ixN (nats fs).length ((ls[k] : Nat) - 1 : Int) = some (ls[k] - 1) := by
        rw [show ((ls[k] : Nat) - 1 : Int) = ((ls[k] - 1 : Nat) : Int) by omega]
        exact ixN_nat (by rw [nats_length]; omega)
      walk_at "hs"
      refine x_append (keepM (Ne.symm RO) eO5) (by rw [nats_length, List.length_cons]; exact szLt (by omega)) ?_
      walk_at "hs"
      have f5 : But p H H5 := b4.trans b6
      refine ⟨⟨_, rfl⟩, ls.eraseIdx k, ms ++ [ls[k]], fs.set (ls[k] - 1) (0 :: ms)[k2], ?_, ?_, by rw [List.length_set]; exact hfs, (f5.mutF fR).mutF fO, (p6.mut (.inl rfl)).mut (.inr (.inl rfl)), ?_, ?_, ?_, fun i' x hx => ?_⟩
      · rw [List.length_eraseIdx_of_lt hk]
        omega
      · rw [List.append_assoc]
        exact ((perm_erase (List.getElem?_eq_getElem hk)).append_left ms).trans hpm
      · rw [upd_ne (Ne.symm nO), upd_ne (Ne.symm RL)]
        exact eL5
      · rw [upd_same, show nats (0 :: (ms ++ [ls[k]])) = nats (0 :: ms) ++ nats [ls[k]] from nats_append (0 :: ms) [ls[k]]]
        rfl
      · rw [upd_ne RO, upd_same, nats_set]
      · rcases Nat.lt_or_ge i' ms.length with h | h
        · rw [List.getElem?_append_left h] at hx
          obtain ⟨j, y, hj, hy, hf⟩ := hd i' x hx
          refine ⟨j, y, hj, by rw [← List.cons_append, List.getElem?_append_left (by rw [List.length_cons]; omega)]; exact hy, ?_⟩
          have hne : ls[k] - 1 ≠ x - 1 := fun e2 => by
            have hxm' := List.mem_range'_1.mp (hpm.mem_iff.mp (List.mem_append.mpr (.inl (List.mem_of_getElem? hx))))
            have nd : (ms ++ ls).Nodup := hpm.nodup_iff.mpr (List.nodup_range' ..)
            have e3 : x = ls[k] := by omega
            exact (List.nodup_append.mp nd).2.2 x (List.mem_of_getElem? hx) ls[k] (List.getElem_mem hk) e3
          rw [List.getElem?_set_ne hne]
          exact hf
        · rw [List.getElem?_append_right h] at hx
          have hk0 : i' - ms.length = 0 := by
            have := (List.getElem?_eq_some_iff.mp hx).1
            rw [List.length_singleton] at this
            omega
          rw [hk0] at hx
          have ex : ls[k] = x := Option.some.inj hx
          subst ex
          rw [List.length_cons] at k2l
          refine ⟨k2, (0 :: ms)[k2], by omega, by rw [← List.cons_append, List.getElem?_append_left (by rw [List.length_cons]; omega)]; exact List.getElem?_eq_getElem _, by rw [List.getElem?_set_self (by omega)]⟩
    · have e : ls = [] := List.length_eq_zero_iff.mp (by omega)
      rw [e, List.append_nil] at hpm
      have htree : IsTree fs := Drawn.tree ⟨ms, by rw [hfs]; exact hpm, hd⟩ (by omega) (by omega)
      have sR : SqL K H' R (nats fs) := .of eR
      walk_at "hs"
      intro D hD
      exact q D fs _ htree hfs (b2.new hD) ((p2.newH hD).weak fun a h => .inr (.inr (.inr h))) upd_same
def spRow (K : PySem.W.Frag) : Sp := fun vs H Q _ => ∃ (t : Addr) (hs : List Nat) (k : Nat), vs = [.ref t, .int k] ∧ H t = some (.tup (nats hs)) ∧ IsTree hs ∧ k ≤ hs.length ∧ ∀ D H', Same H H' → H D = none → H' D = some (.lst (nats (way hs k))) → Q (.ref D) H'
theorem ok_row {f : Addr} {fd : FuncData} (F : Fun K "_law_row" "_law_row" s__law_row f fd) (B : Bl Z mg) : FnOk P w K mg base CX0 1 f fd ["_law_hung", "_law_place"] (spRow K) := by
  refine F.ok sc__law_row (fun vs H Q E h => ?_) (fun cdv A outer s H vs Q E hr h => ?_)
  · obtain ⟨t, hs, k, rfl, _⟩ := h
    rfl
  · obtain ⟨t, hs, k, rfl, ht, it, hk, q⟩ := h
    refine ⟨_, (pss_cons (ps_set (i := 2) sc__law_row.nd rfl (Or.inl rfl) (pe_lst pa_nil))
 (pss_cons (ps_set (i := 3) sc__law_row.nd rfl (Or.inl rfl) (pv 1))
 (pss_cons (ps_while PassesOwn.never (pt_cmpR op_ne (pv 3) pe_int (nomark _)) (pss_cons (ps_set (i := 3) sc__law_row.nd rfl (Or.inl rfl) (pe_ix (ix_tupK (K := K) rfl) (pv 0) (pe_op op_sub (pv 3) pe_int) (fun _ _ => rfl)))
 (pss_one (ps_expr (pe_bmK (K := K) rfl PySem.F.plainAttrs_list PySem.F.slot_list_append PySem.F.type_list_append mt_append (pv 2) (pa_cons (pv 3) pa_nil))))))
 (pss_one (ps_ret (pv 2)))))), ?_⟩
    walk_at "h0"
    intro D hD
    walk_at "hs"
    refine ⟨fun m σ' H' => ∃ n : Nat, n + m = hs.length + 1 ∧ (∀ j, j < n → upN hs j k ≠ 0) ∧ σ' = [some (.ref t), some (.int k), some (.ref D), some (.int (upN hs n k : Nat))] ∧ Same H H' ∧ H' D = some (.lst (nats ((List.range n).map fun i => upN hs (i + 1) k))), ⟨hs.length + 1, 0, by omega, fun j hj => absurd hj (Nat.not_lt_zero _), rfl, same_new (Same.refl _) hD, upd_same⟩, ?_⟩
    rintro m σ' H' ⟨n, hn, hz, rfl, s1, eD⟩
    walk_at "hs"
    refine x_isd (fun c => ?_) (fun c => ?_)
    · have c' : upN hs n k ≠ 0 := fun e => c (by rw [e]; rfl)
      have hlt : n < hs.length := by
        refine Nat.lt_of_not_le fun hle => c' ?_
        exact upN_more (it.comes k hk) hle
      have hup := upN_le it.le n k hk
      have hat : atI (nats hs) ((upN hs n k : Nat) - 1 : Int) = some (.int (upN hs (n + 1) k : Nat)) := by
        rw [show ((upN hs n k : Nat) - 1 : Int) = ((upN hs n k - 1 : Nat) : Int) by omega, upN_succ]
        exact nats_at (up_get (by omega) hup)
      have st : SqT K H' t (nats hs) := .of (s1 _ _ ht)
      refine ⟨fun σ' H2 => σ' = [some (.ref t), some (.int k), some (.ref D), some (.int (upN hs (n + 1) k : Nat))] ∧ Same H H2 ∧ H2 D = some (.lst (nats ((List.range (n + 1)).map fun i => upN hs (i + 1) k))), fun σ' H2 hN => ⟨m - 1, by omega, n + 1, by omega, fun j hj => ?_, hN.1, hN.2.1, hN.2.2⟩, ?_⟩
      · by_cases e : j = n
        · rw [e]
          exact c'
        · exact hz j (by omega)
      · walk_at "hs"
        have := it.most
        refine x_append eD (by rw [nats_length, List.length_map, List.length_range]; exact szLt (by omega)) ?_
        walk_at "hs"
        refine ⟨rfl, same_mut s1 hD, ?_⟩
        rw [upd_same, List.range_succ, List.map_append, nats_append]
        rfl
    · have c' : upN hs n k = 0 := by
        refine Decidable.byContradiction fun e => c fun e' => e ?_
        omega
      have hle : n ≤ hs.length := by
        refine Nat.le_of_not_lt fun h => hz hs.length h (it.comes k hk)
      walk_at "hs"
      refine q D _ s1 hD ?_
      rw [eD, way, wayN_eq hs hs.length k n hz c' hle]
end
set_option maxRecDepth 100000
set_option maxHeartbeats 2000000
open PySem PySem.Spec L2


section
variable {P : Program} {w : World} {K : PySem.W.Frag} {mg : Str → Option Value} {base : Heap} {Z : Ad}
def spInner (K : PySem.W.Frag) : Sp := fun vs H Q _ => ∃ (t : Addr) (hs : List Nat) (b : Nat), vs = [.ref t, .int b] ∧ H t = some (.tup (nats hs)) ∧ IsTree hs ∧ 1 ≤ b ∧ b ≤ hs.length ∧ ∀ D H', Same H H' → H D = none → H' D = some (.lst (nats (inner hs b))) → Q (.ref D) H'
theorem ok_inner {f : Addr} {fd : FuncData} (F : Fun K "_law_beneath" "_law_beneath" s__law_beneath f fd) (B : Bl Z mg) {f__law_row : Addr} {fd__law_row : FuncData} (C__law_row : Cal K mg "_law_row" f__law_row fd__law_row ["_law_hung", "_law_place"]) (G__law_row : FnOk P w K mg base CX0 1 f__law_row fd__law_row ["_law_hung", "_law_place"] (spRow K)) : FnOk P w K mg base CX0 2 f fd ["_law_hung", "_law_place"] (spInner K) := by
  refine F.ok sc__law_beneath (fun vs H Q E h => ?_) (fun cdv A outer s H vs Q E hr h => ?_)
  · obtain ⟨t, hs, b, rfl, _⟩ := h
    rfl
  · obtain ⟨t, hs, b, rfl, ht, it, b1, b2, q⟩ := h
    refine ⟨_, (pss_one (ps_ret (pe_op op_cat (pe_lc (own := [("_law_block", 2)]) rfl sc__law_beneath.nd (pi_range2 rfl B.b_range (pa_cons pe_int (pa_cons (pe_op op_add (pe_callB (call_lenK (K := K) rfl) (by rfl) B.b_len PySem.boot_len (pa_cons (pv 0) pa_nil)) pe_int) pa_nil))) (blkOk_by (N := ["_law_hung", "_law_place", "_law_block"]) (sc := defScope s__law_beneath) (by decide +kernel)) (fun _ _ _ _ _ => (pg_name (i := 2) sc__law_beneath.nd rfl (Or.inl rfl))) (fun _ _ _ _ _ => (pts_one (pt_cmpR (op_inK (K := K) rfl) (pv 1) (pe_op op_cat (pe_lst (pa_cons (pv 2) pa_nil)) (pe_call G__law_row (hr.mono (by first | decide | omega)) (by rfl) C__law_row.g C__law_row.k C__law_row.b .nil pass0 (pa_cons (pv 0) (pa_cons (pv 2) pa_nil)))) (by rfl)))) (fun _ _ _ _ _ => (pv 2))) (pe_op op_rep (pe_lst (pa_cons pe_int pa_nil)) (pe_callTy call_int (by rfl) B.b_int (by decide +kernel) (pa_cons (pe_cmpR op_eq (pv 1) pe_int (nomark _)) pa_nil)))))), ?_⟩
    have h40 := it.most
    have st0 : SqT K H t (nats hs) := .of ht
    walk_at "h0"
    rw [nats_length]
    refine ⟨1, (hs.length : Int) + 1, rfl, ⟨by omega, by omega, by omega, by omega⟩, fun D hD => ?_⟩
    refine lc_range (lo := 1) (n := Int.toNat ((hs.length : Int) + 1 - 1)) (fun i G => Same H G ∧ G D = some (.lst (nats ((List.range' 1 i).filter fun c => decide (b ∈ c :: way hs c))))) ⟨same_new (Same.refl _) hD, upd_same⟩ ?_ ?_
    · rintro i G hi ⟨s1, eD⟩
      have hi' : i < hs.length := by omega
      walk_at "hs"
      refine ⟨rfl, ?_⟩
      have hz : (1 : Int) + (i : Int) = ((i + 1 : Nat) : Int) := by omega
      rw [hz]
      walk_at "hs"
      intro a1 n1
      have s2 : Same G (upd G a1 (.lst [.int ((i + 1 : Nat) : Int)])) := same_new (Same.refl _) n1
      have e1 : upd G a1 (.lst [.int ((i + 1 : Nat) : Int)]) a1 = some (.lst [.int ((i + 1 : Nat) : Int)]) := upd_same
      generalize upd G a1 (.lst [.int ((i + 1 : Nat) : Int)]) = G1 at s2 e1 ⊢
      walk_at "hs"
      refine ⟨t, hs, i + 1, rfl, s2 _ _ (s1 _ _ ht), it, by omega, fun D2 G2 s3 n2 e2 => ?_⟩
      have lw : (way hs (i + 1)).length ≤ 40 := Nat.le_trans (wayN_len _ _ _) h40
      refine x_cat (s3 _ _ e1) e2 (szLe (by rw [nats_length]; show 1 + _ ≤ _; omega)) fun E hE => ?_
      have s4 : Same G (upd G2 E (.lst ([V.int ((i + 1 : Nat) : Int)] ++ nats (way hs (i + 1))))) := (s2.trans s3).trans (same_new (Same.refl _) hE)
      have eE := upd_same (H := G2) (a := E) (o := .lst ([V.int ((i + 1 : Nat) : Int)] ++ nats (way hs (i + 1))))
      generalize upd G2 E _ = G4 at s4 eE ⊢
      have eE' : G4 E = some (.lst (nats ((i + 1) :: way hs (i + 1)))) := eE
      refine x_inNL (.of eE') ?_
      walk_at "hs"
      have hl : ((List.range' 1 i).filter fun c => decide (b ∈ c :: way hs c)).length ≤ i := filter_len _ _
      have sn := filter_snoc (fun c => decide (b ∈ c :: way hs c)) i
      refine x_isd (fun c => ?_) (fun c => ?_)
      · walk_at "hs"
        refine ⟨_, s4 _ _ eD, szLt (by rw [nats_length]; omega), same_mut (s1.trans s4) hD, ?_⟩
        rw [upd_same, sn, if_pos (decide_eq_true c), nats_append]
        rfl
      · refine ⟨s1.trans s4, ?_⟩
        rw [sn, if_neg (by rw [decide_eq_true_eq]; exact c), List.append_nil]
        exact s4 _ _ eD
    · rintro G ⟨s1, eD⟩
      have en : Int.toNat ((hs.length : Int) + 1 - 1) = hs.length := by omega
      rw [en] at eD
      walk_at "hs"
      intro a1 n1
      have s2 : Same G (upd G a1 (.lst [.int 0])) := same_new (Same.refl _) n1
      have e1 : upd G a1 (.lst [.int 0]) a1 = some (.lst [.int 0]) := upd_same
      generalize upd G a1 (.lst [.int 0]) = G1 at s2 e1 ⊢
      walk_at "hs"
      refine .inr ⟨_, rfl, ?_⟩
      have e0 : (if decide ((b : Int) = 0) = true then (1 : Int) else 0) = ((0 : Nat) : Int) := by
        rw [decide_eq_false (by omega)]
        rfl
      rw [e0]
      walk_at "hs"
      refine x_rep1 e1 (by decide) fun R hR => ?_
      walk_at "hs"
      have hl : (inner hs b).length ≤ hs.length := filter_len _ _
      refine x_cat (keepN (s2 _ _ eD) hR) upd_same (szLe (by rw [nats_length]; have : (List.replicate 0 (V.int 0)).length = 0 := rfl; have hl2 : ((List.range' 1 hs.length).filter fun c => decide (b ∈ c :: way hs c)).length ≤ hs.length := filter_len _ _; omega)) fun E hE => ?_
      walk_at "hs"
      have s3 := (s1.trans s2).trans (same_new (Same.refl _) hR (o := .lst (List.replicate 0 (V.int 0))))
      refine q E _ (s3.trans (same_new (Same.refl _) hE)) (s3.free hE) ?_
      rw [upd_same]
      show some (HO.lst (nats _ ++ [])) = _
      rw [List.append_nil]
      rfl
def spPutT : Sp := fun vs H Q _ => ∃ (t : Addr) (hs : List Nat) (b p : Nat), vs = [.ref t, .int b, .int p] ∧ H t = some (.tup (nats hs)) ∧ 1 ≤ b ∧ b ≤ hs.length ∧ hs.length ≤ 40 ∧ ∀ D H', Same H H' → H' D = some (.tup (nats (put hs b p))) → Q (.ref D) H'
theorem ok_putT {f : Addr} {fd : FuncData} (F : Fun K "_law_put" "_law_put" s__law_put f fd) (B : Bl Z mg) : FnOk P w K mg base CX0 1 f fd ["_law_hung", "_law_block", "_law_place"] spPutT := by
  refine F.ok sc__law_put (fun vs H Q E h => ?_) (fun cdv A outer s H vs Q E hr h => ?_)
  · obtain ⟨t, hs, b, p, rfl, _⟩ := h
    rfl
  · obtain ⟨t, hs, b, p, rfl, ht, b1, b2, h40, q⟩ := h
    refine ⟨_, (pss_one (ps_ret (pe_op (op_catAK (K := K) rfl) (pe_op (op_catAK (K := K) rfl) (pe_slice (sl_tupAK (K := K) rfl) (pv 0) po_none (po_some (pe_op op_sub (pv 1) pe_int))) (pe_tup (pa_cons (pv 2) pa_nil))) (pe_slice (sl_tupAK (K := K) rfl) (pv 0) (po_some (pv 1)) po_none)))), ?_⟩
    have nl := nats_length hs
    walk_at "h0"
    refine x_slA ht fun D2 H2 s2 e2 => ?_
    rw [show ((b : Int) - 1) = ((b - 1 : Nat) : Int) by omega, cut_take] at e2
    walk_at "hs"
    intro p1 n1
    walk_at "hs"
    refine x_catA (keepN e2 n1) upd_same (by rw [List.length_take, List.length_cons, List.length_nil]; omega) fun D3 H3 s3 e3 => ?_
    have s13 : Same H H3 := fun a o e => s3 _ _ (keepN (s2 _ _ e) n1)
    walk_at "hs"
    refine x_slA (s13 _ _ ht) fun D4 H4 s4 e4 => ?_
    rw [cut_drop] at e4
    refine x_catA (s4 _ _ e3) e4 (by rw [List.length_append, List.length_take, List.length_drop, List.length_cons, List.length_nil]; omega) fun D5 H5 s5 e5 => ?_
    rw [put_cut b1 b2] at e5
    walk_at "hs"
    exact q D5 H5 ((s13.trans s4).trans s5) e5
end
set_option maxRecDepth 100000
set_option maxHeartbeats 2000000
open PySem PySem.Spec L2


theorem sc__law_moves : FnScope ["_law_hand_here", "_law_hung", "_law_many", "_law_moves_here", "_law_elder", "_law_turn", "_law_block", "_law_inner", "_law_places", "_law_place"] ["_law_hand_here", "_law_hung", "_law_many"] (defScope s__law_moves) := ⟨rfl, rfl, rfl, by decide +kernel, rfl, by decide +kernel, by decide +kernel⟩
theorem PoolAt.notTup {H : Hp} {p : Addr} {F : Addr → Prop} (h : PoolAt H p F) : ∀ xs, H p ≠ some (.tup xs) := fun xs e => by
  obtain ⟨ys, e2⟩ := h.lst
  rw [e] at e2
  cases e2
theorem PrV.but {H H' : Hp} {p : Addr} {v : V} {x : Nat × Nat} (b : But p H H') (n : ∀ xs, H p ≠ some (.tup xs)) (h : PrV H v x) : PrV H' v x := by
  obtain ⟨t, e, ht⟩ := h
  exact ⟨t, e, b _ _ (fun z => n _ (z ▸ ht)) ht⟩
theorem PrsV.but {H H' : Hp} {p : Addr} {vs : List V} {xs : List (Nat × Nat)} (b : But p H H') (n : ∀ xs, H p ≠ some (.tup xs)) (h : PrsV H vs xs) : PrsV H' vs xs := h.imp fun _ _ k => k.but b n
def frees (hs : List Nat) (b : Nat) : List Nat := (List.range (hs.length + 1)).filter fun p => !decide (p ∈ inner hs b)
theorem zero_free (hs : List Nat) (b : Nat) : 0 ∈ frees hs b := by
  unfold frees
  rw [List.mem_filter, List.mem_range]
  refine ⟨by omega, ?_⟩
  rw [Bool.not_eq_true', decide_eq_false_iff_not]
  unfold inner
  rw [List.mem_filter, List.mem_range'_1]
  exact fun h => absurd h.1.1 (by decide)
theorem frees_ok {hs : List Nat} {b p : Nat} (b1 : 1 ≤ b) (b2 : b ≤ hs.length) (h : p ∈ frees hs b) : okPr hs (b, p) := by
  unfold frees at h
  rw [List.mem_filter, List.mem_range, Bool.not_eq_true', decide_eq_false_iff_not] at h
  have hp : p ≤ hs.length := by omega
  have h2 := fun z => h.2 ((inner_mem hp b1).mpr z)
  exact ⟨b1, b2, hp, fun e => h2 (.inl e), fun e => h2 (.inr e)⟩
theorem frees_len (hs : List Nat) (b : Nat) : (frees hs b).length ≤ hs.length + 1 := by
  unfold frees
  exact Nat.le_trans (List.length_filter_le _ _) (by rw [List.length_range]; exact Nat.le_refl _)
section
variable {P : Program} {w : World} {K : PySem.W.Frag} {mg : Str → Option Value} {base : Heap} {Z : Ad}
def spMovs : Sp := fun vs H Q _ => ∃ (p t : Addr) (hs : List Nat) (k : Int) (F : Addr → Prop), vs = [.ref p, .ref t, .int k] ∧ PoolAt H p F ∧ H t = some (.tup (nats hs)) ∧ IsTree hs ∧ 0 ≤ k ∧ k ≤ 80 ∧
  ∀ (m u g : Addr) (us : List V) (ms : List (Nat × Nat)) H', (ms.length : Int) = k → OkAll hs ms → But p H H' → PoolAt H' p F → H' m = some (.tup [.ref u, .ref g]) → H' u = some (.tup us) → PrsV H' us ms → H' g = some (.tup (nats (final hs ms))) → Q (.ref m) H'
theorem ok_movs {f : Addr} {fd : FuncData} (F : Fun K "_law_moves" "_law_moves" s__law_moves f fd) (B : Bl Z mg) {f__law_draw : Addr} {fd__law_draw : FuncData} (C__law_draw : Cal K mg "_law_draw" f__law_draw fd__law_draw ["_law_hand_here", "_law_many"]) (G__law_draw : FnOk P w K mg base CX0 1 f__law_draw fd__law_draw ["_law_hand_here", "_law_many"] spDraw) {f__law_beneath : Addr} {fd__law_beneath : FuncData} (C__law_beneath : Cal K mg "_law_beneath" f__law_beneath fd__law_beneath ["_law_hung", "_law_place"]) (G__law_beneath : FnOk P w K mg base CX0 2 f__law_beneath fd__law_beneath ["_law_hung", "_law_place"] (spInner K)) {f__law_put : Addr} {fd__law_put : FuncData} (C__law_put : Cal K mg "_law_put" f__law_put fd__law_put ["_law_hung", "_law_block", "_law_place"]) (G__law_put : FnOk P w K mg base CX0 1 f__law_put fd__law_put ["_law_hung", "_law_block", "_law_place"] spPutT) : FnOk P w K mg base CX0 3 f fd ["_law_hand_here", "_law_hung", "_law_many"] spMovs := by
  refine F.ok sc__law_moves (fun vs H Q E h => ?_) (fun cdv A outer s H vs Q E hr h => ?_)
  · obtain ⟨p, t, hs, k, Fo, rfl, _⟩ := h
    rfl
  · obtain ⟨p, t, hs, k, Fo, rfl, hp, ht, it, k0, k1, q⟩ := h
    refine ⟨_, (pss_cons (ps_par (i := 3) (j := 4) (by rfl) sc__law_moves.nd rfl rfl (by decide) rfl rfl (pa_cons (pe_tup pa_nil) (pa_cons (pv 1) pa_nil)) (by rfl))
 (pss_cons (ps_for PassesOwn.never rfl (pi_range1 rfl B.b_range (pa_cons (pv 2) pa_nil)) (pg_name (i := 5) sc__law_moves.nd rfl (Or.inl rfl)) (pss_cons (ps_set (i := 6) sc__law_moves.nd rfl (Or.inl rfl) (pe_op op_add pe_int (pe_call G__law_draw (hr.mono (by first | decide | omega)) (by rfl) C__law_draw.g C__law_draw.k C__law_draw.b .nil pass0 (pa_cons (pv 0) (pa_cons (pe_callB (call_lenK (K := K) rfl) (by rfl) B.b_len PySem.boot_len (pa_cons (pv 1) pa_nil)) pa_nil)))))
 (pss_cons (ps_set (i := 7) sc__law_moves.nd rfl (Or.inr rfl) (pe_call G__law_beneath (hr.mono (by first | decide | omega)) (by rfl) C__law_beneath.g C__law_beneath.k C__law_beneath.b .nil pass0 (pa_cons (pv 1) (pa_cons (pv 6) pa_nil))))
 (pss_cons (ps_setLc (i := 8) (own := [("_law_place", 9)]) rfl sc__law_moves.nd rfl rfl (sw_true rfl rfl rfl (by decide +kernel)) (pi_range1 rfl B.b_range (pa_cons (pe_op op_add (pe_callB (call_lenK (K := K) rfl) (by rfl) B.b_len PySem.boot_len (pa_cons (pv 1) pa_nil)) pe_int) pa_nil)) (blkOk_by (N := ["_law_hand_here", "_law_hung", "_law_many", "_law_moves_here", "_law_elder", "_law_turn", "_law_block", "_law_inner", "_law_places", "_law_place"]) (sc := defScope s__law_moves) (by decide +kernel)) (fun _ _ _ _ _ => (pg_name (i := 9) sc__law_moves.nd rfl (Or.inl rfl))) (fun _ _ _ _ _ => (pts_one (pt_cmpR (op_notInK (K := K) rfl) (pv 9) (pv 7) (by rfl)))) (fun _ _ _ _ _ => (pv 9)))
 (pss_cons (ps_set (i := 9) sc__law_moves.nd rfl (Or.inl rfl) (pe_ix (ix_listK (K := K) rfl) (pv 8) (pe_call G__law_draw (hr.mono (by first | decide | omega)) (by rfl) C__law_draw.g C__law_draw.k C__law_draw.b .nil pass0 (pa_cons (pv 0) (pa_cons (pe_callB (call_lenK (K := K) rfl) (by rfl) B.b_len PySem.boot_len (pa_cons (pv 8) pa_nil)) pa_nil))) (fun _ _ => rfl)))
 (C8.pss_cut (ps_if (PW.pt (pw_and (pt_cmpR op_eq (pe_call G__law_draw (hr.mono (by first | decide | omega)) (by rfl) C__law_draw.g C__law_draw.k C__law_draw.b .nil pass0 (pa_cons (pv 0) (pa_cons pe_int pa_nil))) pe_int (nomark _)) (pw_and1 (pt_cmpR (op_inK (K := K) rfl) (pe_ix (ix_tupK (K := K) rfl) (pv 4) (pe_op op_sub (pv 6) pe_int) (fun _ _ => rfl)) (pv 8) (by rfl))))) (pss_one (ps_set (i := 9) sc__law_moves.nd rfl (Or.inl rfl) (pe_ix (ix_tupK (K := K) rfl) (pv 4) (pe_op op_sub (pv 6) pe_int) (fun _ _ => rfl)))) pss_nil)
 (pss_cons (ps_set (i := 3) sc__law_moves.nd rfl (Or.inl rfl) (pe_op (op_catAK (K := K) rfl) (pv 3) (pe_tup (pa_cons (pe_tup (pa_cons (pv 6) (pa_cons (pv 9) pa_nil))) pa_nil))))
 (pss_one (ps_set (i := 1) sc__law_moves.nd rfl (Or.inl rfl) (pe_call G__law_put (hr.mono (by first | decide | omega)) (by rfl) C__law_put.g C__law_put.k C__law_put.b .nil pass0 (pa_cons (pv 1) (pa_cons (pv 6) (pa_cons (pv 9) pa_nil)))))))))))))
 (pss_one (ps_ret (pe_tup (pa_cons (pv 3) (pa_cons (pv 1) pa_nil))))))), ?_⟩
    have h40 := it.most
    have h1 := it.pos
    walk_at "h0"
    intro U nU
    have s1 : Same H (upd H U (.tup [])) := same_new (Same.refl _) nU
    have eU : upd H U (.tup []) U = some (.tup []) := upd_same
    generalize upd H U (.tup []) = H1 at s1 eU ⊢
    walk_at "hs"
    refine ⟨k, rfl, by omega, by omega, ?_⟩
    refine lp_range (lo := 0) (n := Int.toNat k) (fun i σ' H' => (∃ g u x5 x6 x7 x8 x9, σ' = [some (.ref p), some (.ref g), some (.int k), some (.ref u), some (.ref t), x5, x6, x7, x8, x9] ∧ ∃ us ms, ms.length = i ∧ OkAll hs ms ∧ H' u = some (.tup us) ∧ PrsV H' us ms ∧ H' g = some (.tup (nats (final hs ms)))) ∧ But p H H' ∧ PoolAt H' p Fo ∧ H' t = some (.tup (nats hs)))
      ⟨⟨t, U, _, _, _, _, _, rfl, [], [], rfl, OkAll.nil hs, eU, trivial, s1 _ _ ht⟩, But.of s1, hp.same s1, s1 _ _ ht⟩ ?_ ?_
    · clear eU s1 nU hp ht
      rintro i σ' H2 hi ⟨⟨g, u, x5, x6, x7, x8, x9, rfl, us, ms, lm, ok, eu, pu, eg⟩, b2, p2, et⟩
      have itf := ok.tree it
      have fl := final_len hs ms
      generalize hgs : final hs ms = gs at itf fl eg
      have sg : SqT K H2 g (nats gs) := .of eg
      walk_at "hs"
      rw [nats_length]
      refine ⟨p, _, Fo, rfl, p2, by omega, by omega, fun d H3 d0 d1 b3 p3 => ?_⟩
      obtain ⟨b, hb⟩ : ∃ b : Nat, 1 + d = (b : Int) := ⟨(1 + d).toNat, by omega⟩
      have bb1 : 1 ≤ b := by omega
      have bb2 : b ≤ gs.length := by omega
      have tp : ∀ {a : Addr} {xs : List V}, H2 a = some (.tup xs) → H3 a = some (.tup xs) := fun {a xs} e => b3 _ _ (fun z => p2.notTup _ (z ▸ e)) e
      have eg3 := tp eg
      have eu3 := tp eu
      have et3 := tp et
      have pu3 := pu.but b3 p2.notTup
      walk_at "hs"
      rw [hb]
      refine ⟨g, gs, b, rfl, eg3, itf, bb1, bb2, fun I H4 s4 nI eI => ?_⟩
      have sg4 : SqT K H4 g (nats gs) := .of (s4 _ _ eg3)
      walk_at "hs"
      rw [nats_length]
      refine ⟨(gs.length : Int) + 1, rfl, by omega, by omega, fun D hD => ?_⟩
      have nDp : D ≠ p := (p3.same s4).ne hD
      refine lc_range (lo := 0) (n := Int.toNat ((gs.length : Int) + 1)) (fun j G => Same H4 G ∧ G D = some (.lst (nats ((List.range j).filter fun c => !decide (c ∈ inner gs b))))) ⟨same_new (Same.refl _) hD, upd_same⟩ ?_ ?_
      · rintro j G hj ⟨s5, eD⟩
        rw [Int.zero_add]
        walk_at "hs"
        refine ⟨rfl, ?_⟩
        walk_at "hs"
        refine x_ninNL (.of (s5 _ _ eI)) ?_
        walk_at "hs"
        have hl : ((List.range j).filter fun c => !decide (c ∈ inner gs b)).length ≤ j := Nat.le_trans (List.length_filter_le _ _) (by rw [List.length_range]; exact Nat.le_refl _)
        have sn := range0_snoc (fun c => !decide (c ∈ inner gs b)) j
        cases c : !decide (j ∈ inner gs b) with
        | true =>
          walk_at "hs"
          refine ⟨_, eD, szLt (by rw [nats_length]; omega), same_mut s5 hD, ?_⟩
          rw [upd_same, sn, if_pos c, nats_append]
          rfl
        | false =>
          refine ⟨s5, ?_⟩
          rw [sn, if_neg (by rw [c]; exact Bool.false_ne_true), List.append_nil]
          exact eD
      · rintro G ⟨s5, eD⟩
        have en : Int.toNat ((gs.length : Int) + 1) = gs.length + 1 := by omega
        rw [en] at eD
        have eD : G D = some (.lst (nats (frees gs b))) := eD
        have s25 := s4.trans s5
        have sD : SqL K G D (nats (frees gs b)) := .of eD
        have p5 := p3.same s25
        have fpos : 0 < (frees gs b).length := List.length_pos_of_mem (zero_free gs b)
        have flen := frees_len gs b
        walk_at "hs"
        rw [nats_length]
        refine ⟨p, _, Fo, rfl, p5, by omega, by omega, fun d2 H6 d20 d21 b6 p6 => ?_⟩
        obtain ⟨y, hv, hm⟩ := at_lt (xs := nats (frees gs b)) d20 (by rw [nats_length]; exact d21)
        have eD6 := b6 _ _ nDp eD
        have sD6 : SqL K H6 D (nats (frees gs b)) := .of eD6
        obtain ⟨yn, hyn, rfl⟩ : ∃ yn ∈ frees gs b, y = .int (yn : Nat) := by
          obtain ⟨z, hz, e⟩ := List.mem_map.mp hm
          exact ⟨z, hz, e.symm⟩
        have tp6 : ∀ {a : Addr} {xs : List V}, G a = some (.tup xs) → H6 a = some (.tup xs) := fun {a xs} e => b6 _ _ (fun z => p5.notTup _ (z ▸ e)) e
        have eg6 := tp6 (s25 _ _ eg3)
        have eu6 := tp6 (s25 _ _ eu3)
        have et6 := tp6 (s25 _ _ et3)
        have pu6 := (pu3.same s25).but b6 p5.notTup
        have b06 : But p H H6 := ((b2.trans b3).trans (But.of s25)).trans b6
        clear eg eu et pu eg3 eu3 et3 pu3 sg sg4 eI sD eD s4 s5 s25 b2 b3 b6 p2 p3 p5 tp tp6 nI
        walk_at "hs"
        refine ⟨fun σ' H' => (∃ yn ∈ frees gs b, σ' = [some (.ref p), some (.ref g), some (.int k), some (.ref u), some (.ref t), some (.int (0 + (i : Int))), some (.int (b : Nat)), some (.ref I), some (.ref D), some (.int (yn : Nat))]) ∧ But p H H' ∧ PoolAt H' p Fo ∧ H' t = some (.tup (nats hs)) ∧ H' u = some (.tup us) ∧ PrsV H' us ms ∧ H' g = some (.tup (nats gs)), ?_, ?_⟩
        · walk_at "hs"
          refine ⟨p, 4, Fo, rfl, p6, by decide, by decide, fun d3 H7 d30 d31 b7 p7 => ?_⟩
          have tp7 : ∀ {a : Addr} {xs : List V}, H6 a = some (.tup xs) → H7 a = some (.tup xs) := fun {a xs} e => b7 _ _ (fun z => p6.notTup _ (z ▸ e)) e
          have eg7 := tp7 eg6
          have eu7 := tp7 eu6
          have et7 := tp7 et6
          have pu7 := pu6.but b7 p6.notTup
          have st7 : SqT K H7 t (nats hs) := .of et7
          have aT : atI (nats hs) ((b : Int) - 1) = some (.int (up hs b : Nat)) := by
            rw [show (b : Int) - 1 = ((b - 1 : Nat) : Int) by omega]
            exact nats_at (up_get bb1 (by omega))
          have eD7 : H7 D = some (.lst (nats (frees gs b))) := b7 _ _ nDp eD6
          walk_at "hs"
          refine x_isd (fun c => ?_) (fun c => ?_)
          · walk_at "hs"
            refine x_inNL (.of eD7) ?_
            walk_at "hs"
            refine x_isd (fun c2 => ?_) (fun c2 => ?_)
            · walk_at "hs"
              exact ⟨⟨_, c2, rfl⟩, b06.trans b7, p7, et7, eu7, pu7, eg7⟩
            · walk_at "hs"
              exact ⟨⟨_, hyn, rfl⟩, b06.trans b7, p7, et7, eu7, pu7, eg7⟩
          · walk_at "hs"
            exact ⟨⟨_, hyn, rfl⟩, b06.trans b7, p7, et7, eu7, pu7, eg7⟩
        · clear eg6 eu6 et6 pu6 b06 p6 sD6 eD6 hyn hm hv yn
          rintro σ' H7 ⟨⟨yn, hyn, rfl⟩, b7, p7, et, eu, pu, eg⟩
          have opr := frees_ok bb1 bb2 hyn
          walk_at "hs"
          intro T1 nT1
          have s1 : Same H7 (upd H7 T1 (.tup [.int (b : Nat), .int (yn : Nat)])) := same_new (Same.refl _) nT1
          have eT1 : upd H7 T1 (.tup [.int (b : Nat), .int (yn : Nat)]) T1 = some (.tup [.int (b : Nat), .int (yn : Nat)]) := upd_same
          generalize upd H7 T1 (.tup [.int (b : Nat), .int (yn : Nat)]) = H8 at s1 eT1 ⊢
          walk_at "hs"
          intro T2 nT2
          have s2 : Same H8 (upd H8 T2 (.tup [.ref T1])) := same_new (Same.refl _) nT2
          have eT2 : upd H8 T2 (.tup [.ref T1]) T2 = some (.tup [.ref T1]) := upd_same
          generalize upd H8 T2 (.tup [.ref T1]) = H9 at s2 eT2 ⊢
          have s12 := s1.trans s2
          refine x_catA (s12 _ _ eu) eT2 (by rw [pu.len]; show _ + 1 ≤ _; omega) fun T3 H10 s3 eT3 => ?_
          have s13 := s12.trans s3
          walk_at "hs"
          refine ⟨g, gs, b, yn, rfl, s13 _ _ eg, bb1, bb2, by omega, fun G2 H11 s4 eG2 => ?_⟩
          have s14 := s13.trans s4
          walk_at "hs"
          refine ⟨⟨G2, T3, _, _, _, _, _, rfl, us ++ [.ref T1], ms ++ [(b, yn)], by rw [List.length_append, lm]; rfl, ?_, s4 _ _ eT3, (pu.same s14).app ⟨⟨T1, rfl, s4 _ _ (s3 _ _ (s2 _ _ eT1))⟩, trivial⟩, ?_⟩, b7.trans (But.of s14), p7.same s14, s14 _ _ et⟩
          · exact ok.snoc (by rw [hgs]; exact opr)
          · rw [final_snoc, hgs]
            exact eG2
    · rintro σ' HE ⟨⟨g, u, x5, x6, x7, x8, x9, rfl, us, ms, lm, ok, eu, pu, eg⟩, b2, p2, et⟩
      walk_at "hs"
      intro m nm
      have s1 : Same HE (upd HE m (.tup [.ref u, .ref g])) := same_new (Same.refl _) nm
      have em : upd HE m (.tup [.ref u, .ref g]) m = some (.tup [.ref u, .ref g]) := upd_same
      generalize upd HE m (.tup [.ref u, .ref g]) = G at s1 em ⊢
      exact q m u g us ms G (by omega) ok (b2.trans (But.of s1)) (p2.same s1) em (s1 _ _ eu) (pu.same s1) (s1 _ _ eg)
end
set_option maxRecDepth 100000
set_option maxHeartbeats 4000000
open PySem PySem.Spec L2


local macro_rules | `(tactic| walk_at "h1") => `(tactic| first
  | with_reducible refine x_dget ?_
  | with_reducible refine x_dc ?_
  | with_reducible refine x_keysF ?_
  | with_reducible refine x_keysFT ?_)

theorem sc__law_words : FnScope ["_law_hand_here", "_law_known", "_law_many", "_law_lost", "_law_ups", "_law_lists", "_law_first", "_law_block", "_law_worth", "_law_rows", "_law_place", "_law_row_here", "_law_some"] ["_law_hand_here", "_law_known", "_law_many", "_law_lost"] (defScope s__law_words) := ⟨rfl, rfl, rfl, by decide +kernel, rfl, by decide +kernel, by decide +kernel⟩
theorem mem_natsK {k : List Nat} {v : V} (h : v ∈ nats k) : ∃ q, q ∈ k ∧ v = .int (q : Nat) := by
  obtain ⟨q, hq, rfl⟩ := List.mem_map.mp h
  exact ⟨q, hq, rfl⟩
theorem mem_blsK {l : List Bool} {v : V} (h : v ∈ bls l) : ∃ f, f ∈ l ∧ v = .bl f := by
  obtain ⟨q, hq, rfl⟩ := List.mem_map.mp h
  exact ⟨q, hq, rfl⟩
theorem bls_notPool {H : Hp} {p a : Addr} {F : Addr → Prop} {l : List Bool} (hp : PoolAt H p F) (h : H a = some (.lst (bls l))) : a ≠ p := fun z => by
  obtain ⟨⟨g0, gs, i, c, m, n, h1, _⟩, _⟩ := hp
  rw [z, h1] at h
  have := HO.lst.inj (Option.some.inj h)
  unfold bls at this
  cases l with
  | nil => cases this
  | cons x r => cases this
theorem BsAt.pool {H H' : Hp} {p : Addr} {F : Addr → Prop} {as : List Addr} {n : Nat} {ks : List (List Nat)} (hp : PoolAt H p F) (b : But p H H') (h : BsAt H as n ks) : BsAt H' as n ks := fun j a e => by
  have g := h j a e
  refine b _ _ (fun z => ?_) g
  obtain ⟨⟨g0, gs, i, c, m, n, h1, _⟩, _⟩ := hp
  rw [z, h1] at g
  have := HO.lst.inj (Option.some.inj g)
  unfold bls at this
  cases hw : worthL (ks.getD (j % _) []) (j / _) with
  | nil => rw [hw] at this; cases this
  | cons x r => rw [hw] at this; cases this
theorem PoolAt.notD {H : Hp} {p D : Addr} {F : Addr → Prop} {kvs : List (Key × V)} (h : PoolAt H p F) (e : H D = some (.dK kvs)) : D ≠ p := fun z => by
  obtain ⟨xs, e2⟩ := h.lst
  rw [z, e2] at e
  cases e
theorem PoolAt.notDT {H : Hp} {p D : Addr} {F : Addr → Prop} {kvs : List (List Key × V)} (h : PoolAt H p F) (e : H D = some (.dT kvs)) : D ≠ p := fun z => by
  obtain ⟨xs, e2⟩ := h.lst
  rw [z, e2] at e
  cases e
theorem KnownAt.pool {H H' : Hp} {p D : Addr} {F : Addr → Prop} {ks : List (List Nat)} (hp : PoolAt H p F) (b : But p H H') (h : KnownAt H D ks) : KnownAt H' D ks := by
  obtain ⟨as, h1, h2⟩ := id h
  exact h.but b hp.notTup (hp.notD h1)
theorem WorthsAt.pool {H H' : Hp} {p W : Addr} {F : Addr → Prop} {n : Nat} {ks : List (List Nat)} (hp : PoolAt H p F) (b : But p H H') (h : WorthsAt H W n ks) : WorthsAt H' W n ks := by
  obtain ⟨as, h1, h2, h3⟩ := h
  exact ⟨as, h1, b _ _ (hp.notDT h2) h2, h3.pool hp b⟩
theorem KnownAt.get {H : Hp} {D : Addr} {ks : List (List Nat)} (h : KnownAt H D ks) {i : Nat} (hi : i < ks.length) : ∃ bs a, H D = some (.dK (kdl 1 (refs bs))) ∧ (refs bs)[i]? = some (.ref a) ∧ H a = some (.tup (nats ks[i])) := by
  obtain ⟨bs, h1, h2⟩ := h
  obtain ⟨a, ha, e⟩ := h2.get hi
  exact ⟨bs, a, h1, refs_get ha, e⟩
theorem WorthsAt.get {H : Hp} {W : Addr} {n : Nat} {ks : List (List Nat)} (h : WorthsAt H W n ks) (hn : ks.length = n) {m i : Nat} (hm : m ≤ n) (hi : i < ks.length) : ∃ as a, H W = some (.dT (wdl n 0 as)) ∧ valV (wdl n 0 as) (keyW n (m * n + i)) = some (.ref a) ∧ H a = some (.lst (bls (worthL ks[i] m))) := by
  obtain ⟨as, la, eW, ba⟩ := h
  have hin : i < n := by omega
  have jj : m * n + i < as.length := by
    rw [la]
    have : m * n ≤ n * n := Nat.mul_le_mul hm (Nat.le_refl _)
    rw [Nat.succ_mul]
    omega
  have ea := ba _ _ (List.getElem?_eq_getElem jj)
  have e1 : (m * n + i) % n = i := by rw [Nat.mul_comm m n, Nat.mul_add_mod, Nat.mod_eq_of_lt hin]
  have e2 : (m * n + i) / n = m := by rw [Nat.mul_comm m n, Nat.mul_add_div (by omega), Nat.div_eq_of_lt hin, Nat.add_zero]
  rw [e1, e2, List.getD_eq_getElem?_getD, List.getElem?_eq_getElem hi] at ea
  have vv := wdl_val (n := n) (j := 0) (List.getElem?_eq_getElem jj)
  rw [Nat.zero_add] at vv
  exact ⟨as, _, eW, vv, ea⟩
theorem canCols_all {k : List Nat} : ∀ {p : Nat} {c : List (Option Bool)}, (∀ m o, c[m]? = some o → colOk k (p + m) o = true) → canCols k p c = true
  | _, [], _ => rfl
  | p, x :: r, h => by
    show (colOk k p x && canCols k (p + 1) r) = true
    rw [show colOk k p x = true from h 0 x rfl, canCols_all fun m o e => by rw [show p + 1 + m = p + (m + 1) by omega]; exact h (m + 1) o e]
    rfl
theorem words_fit {n : Nat} {ks : List (List Nat)} {us : List (Option Nat)} {ls : List (List (Option Bool))} (kn : KnownOk n ks) (n1 : 1 ≤ n) (n2 : n ≤ 40) (ul : us.length = n) (uk : ∀ b q, us[b]? = some (some q) → q ∈ ks.getD b []) (ll : ls.length = n + 1) (rl : ∀ r ∈ ls, r.length = n)
    (rk : ∀ m r j f, ls[m]? = some r → r[j]? = some (some f) → f ∈ worthL (ks.getD j []) m) (dn : ∀ m r, ls[m]? = some r → 1 ≤ m → r[m - 1]? ≠ some none) : WdOk n us ls ∧ (standsN us ls ks).all (fun b => b) = true := by
  refine ⟨⟨n1, n2, ul, fun b q e => ?_, ll, rl, fun m r e m1 => ?_⟩, stands_yes fun i hi => ?_⟩
  · have hb : b < ks.length := by
      have := (List.getElem?_eq_some_iff.mp e).1
      rw [kn.len]
      omega
    have := uk b q e
    rw [List.getD_eq_getElem?_getD, List.getElem?_eq_getElem hb] at this
    exact (kn.at_ b _ (List.getElem?_eq_getElem hb)).2.2 q this
  · have hr := rl r (List.mem_of_getElem? e)
    have hm := (List.getElem?_eq_some_iff.mp e).1
    have lt : m - 1 < r.length := by omega
    have g := List.getElem?_eq_getElem lt
    cases c : r[m - 1] with
    | none =>
      rw [c] at g
      exact (dn m r e m1 g).elim
    | some f =>
      rw [c] at g
      have w := rk m r (m - 1) f e g
      have hb : m - 1 < ks.length := by rw [kn.len]; omega
      rw [List.getD_eq_getElem?_getD, List.getElem?_eq_getElem hb] at w
      have no : ¬ m ∈ ks[m - 1] := fun z => by
        have := ((kn.at_ (m - 1) _ (List.getElem?_eq_getElem hb)).2.2 m z).2
        omega
      have w2 : f ∈ worthL ks[m - 1] m := w
      unfold worthL at w2
      rw [if_neg no, if_pos (.inl no)] at w2
      rw [g, List.mem_singleton.mp w2]
  · unfold canB
    rw [Bool.and_eq_true]
    constructor
    · unfold upOk
      rw [Nat.add_sub_cancel]
      cases e : us[i]? with
      | none => rfl
      | some o =>
        cases o with
        | none => rfl
        | some q =>
          have := uk i q e
          rw [List.getD_eq_getElem?_getD, List.getElem?_eq_getElem hi] at this
          exact decide_eq_true this
    · refine canCols_all fun m o e => ?_
      rw [Nat.zero_add]
      unfold col at e
      rw [List.getElem?_map] at e
      cases g : ls[m]? with
      | none => rw [g] at e; cases e
      | some r =>
        rw [g, Nat.add_sub_cancel] at e
        have e2 : (r[i]?).getD none = o := Option.some.inj e
        cases o with
        | none => rfl
        | some f =>
          have e3 : r[i]? = some (some f) := by
            cases h : r[i]? with
            | none => rw [h] at e2; cases e2
            | some x => rw [h] at e2; exact congrArg some e2
          rw [colOk_worth]
          have := rk m r i f g e3
          rw [List.getD_eq_getElem?_getD, List.getElem?_eq_getElem hi] at this
          exact decide_eq_true this
section
variable {P : Program} {w : World} {K : PySem.W.Frag} {mg : Str → Option Value} {base : Heap} {Z : Ad}
def spLWords : Sp := fun vs H Q _ => ∃ (p D : Addr) (n : Nat) (lost : Bool) (ks : List (List Nat)) (F : Addr → Prop), vs = [.ref p, .ref D, .int n, .bl lost] ∧ PoolAt H p F ∧ KnownAt H D ks ∧ KnownOk n ks ∧ 1 ≤ n ∧ n ≤ 40 ∧ (∀ k ∈ ks, k.length ≤ 100) ∧
  ∀ (T tu tl : Addr) (us : List (Option Nat)) (ls : List (List (Option Bool))) (rs : List Addr) H', But p H H' → PoolAt H' p F → H' T = some (.tup [.ref tu, .ref tl]) → H' tu = some (.tup (upvs us)) → H' tl = some (.tup (refs rs)) → Rows H' rs ls → WdOk n us ls → (standsN us ls ks).all (fun b => b) = true → Q (.ref T) H'
theorem ok_lwords {f : Addr} {fd : FuncData} (F : Fun K "_law_words" "_law_words" s__law_words f fd) (B : Bl Z mg) {f__law_worths : Addr} {fd__law_worths : FuncData} (C__law_worths : Cal K mg "_law_worths" f__law_worths fd__law_worths ["_law_known", "_law_many"]) (G__law_worths : FnOk P w K mg base CX0 1 f__law_worths fd__law_worths ["_law_known", "_law_many"] spWorths) {f__law_draw : Addr} {fd__law_draw : FuncData} (C__law_draw : Cal K mg "_law_draw" f__law_draw fd__law_draw ["_law_hand_here", "_law_many"]) (G__law_draw : FnOk P w K mg base CX0 1 f__law_draw fd__law_draw ["_law_hand_here", "_law_many"] spDraw) : FnOk P w K mg base CX0 2 f fd ["_law_hand_here", "_law_known", "_law_many", "_law_lost"] spLWords := by
  refine F.ok sc__law_words (fun vs H Q E h => ?_) (fun cdv A outer s H vs Q E hr h => ?_)
  · obtain ⟨p, D, n, lost, ks, F, rfl, _⟩ := h
    rfl
  · obtain ⟨p, D, n, lost, ks, Fo, rfl, hp, kn, ko, n1, n2, hk, q⟩ := h
    refine ⟨_, (pss_cons (ps_asg (pe_call G__law_worths (hr.mono (by first | decide | omega)) (by rfl) C__law_worths.g C__law_worths.k C__law_worths.b .nil pass0 (pa_cons (pv 1) (pa_cons (pv 2) pa_nil))) (pg_tup rfl (pgs_cons (pg_name (i := 4) sc__law_words.nd rfl (Or.inl rfl)) (pgs_cons (pg_name (i := 5) sc__law_words.nd rfl (Or.inl rfl)) pgs_nil))))
 (pss_cons (ps_set (i := 6) sc__law_words.nd rfl (Or.inl rfl) (pe_lst pa_nil))
 (pss_cons (ps_for PassesOwn.never rfl (pi_range2 rfl B.b_range (pa_cons pe_int (pa_cons (pe_op op_add (pv 2) pe_int) pa_nil))) (pg_name (i := 7) sc__law_words.nd rfl (Or.inl rfl)) (pss_cons (ps_set (i := 8) sc__law_words.nd rfl (Or.inl rfl) (pe_ix (ix_tupK (K := K) rfl) (pe_dget (units1 hr) (pv 4) (pv 7) (fun _ _ => rfl)) (pe_call G__law_draw (hr.mono (by first | decide | omega)) (by rfl) C__law_draw.g C__law_draw.k C__law_draw.b .nil pass0 (pa_cons (pv 0) (pa_cons (pe_callB (call_lenK (K := K) rfl) (by rfl) B.b_len PySem.boot_len (pa_cons (pe_dget (units1 hr) (pv 4) (pv 7) (fun _ _ => rfl)) pa_nil)) pa_nil))) (fun _ _ => rfl)))
 (pss_one (ps_expr (pe_bmK (K := K) rfl PySem.F.plainAttrs_list PySem.F.slot_list_append PySem.F.type_list_append mt_append (pv 6) (pa_cons (pe_ifExp (PW.pt (pw_and (pt_val (pv 3)) (pw_and1 (pt_cmpR op_eq (pe_call G__law_draw (hr.mono (by first | decide | omega)) (by rfl) C__law_draw.g C__law_draw.k C__law_draw.b .nil pass0 (pa_cons (pv 0) (pa_cons pe_int pa_nil))) pe_int (nomark _))))) pe_non (pv 8)) pa_nil))))))
 (pss_cons (ps_set (i := 9) sc__law_words.nd rfl (Or.inl rfl) (pe_lst pa_nil))
 (pss_cons (ps_for PassesOwn.never rfl (pi_range1 rfl B.b_range (pa_cons (pe_op op_add (pv 2) pe_int) pa_nil)) (pg_name (i := 10) sc__law_words.nd rfl (Or.inl rfl)) (pss_cons (ps_set (i := 11) sc__law_words.nd rfl (Or.inl rfl) (pe_lst pa_nil))
 (pss_cons (ps_for PassesOwn.never rfl (pi_range2 rfl B.b_range (pa_cons pe_int (pa_cons (pe_op op_add (pv 2) pe_int) pa_nil))) (pg_name (i := 7) sc__law_words.nd rfl (Or.inl rfl)) (pss_cons (ps_set (i := 12) sc__law_words.nd rfl (Or.inl rfl) (pe_dget (units1 hr) (pv 5) (pe_tup (pa_cons (pv 10) (pa_cons (pv 7) pa_nil))) (fun _ _ => rfl)))
 (pss_cons (ps_set (i := 8) sc__law_words.nd rfl (Or.inl rfl) (pe_ix (ix_listK (K := K) rfl) (pv 12) (pe_call G__law_draw (hr.mono (by first | decide | omega)) (by rfl) C__law_draw.g C__law_draw.k C__law_draw.b .nil pass0 (pa_cons (pv 0) (pa_cons (pe_callB (call_lenK (K := K) rfl) (by rfl) B.b_len PySem.boot_len (pa_cons (pv 12) pa_nil)) pa_nil))) (fun _ _ => rfl)))
 (pss_one (ps_expr (pe_bmK (K := K) rfl PySem.F.plainAttrs_list PySem.F.slot_list_append PySem.F.type_list_append mt_append (pv 11) (pa_cons (pe_ifExp (PW.pt (pw_and (pt_val (pv 3)) (pw_and (pt_cmpR op_ne (pv 10) (pv 7) (nomark _)) (pw_and1 (pt_cmpR op_eq (pe_call G__law_draw (hr.mono (by first | decide | omega)) (by rfl) C__law_draw.g C__law_draw.k C__law_draw.b .nil pass0 (pa_cons (pv 0) (pa_cons pe_int pa_nil))) pe_int (nomark _)))))) pe_non (pv 8)) pa_nil)))))))
 (pss_one (ps_expr (pe_bmK (K := K) rfl PySem.F.plainAttrs_list PySem.F.slot_list_append PySem.F.type_list_append mt_append (pv 9) (pa_cons (pe_callTy (call_tplK (K := K) rfl) (by rfl) B.b_tuple (by decide +kernel) (pa_cons (pv 11) pa_nil)) pa_nil)))))))
 (pss_one (ps_ret (pe_tup (pa_cons (pe_callTy (call_tplK (K := K) rfl) (by rfl) B.b_tuple (by decide +kernel) (pa_cons (pv 6) pa_nil)) (pa_cons (pe_callTy (call_tplK (K := K) rfl) (by rfl) B.b_tuple (by decide +kernel) (pa_cons (pv 9) pa_nil)) pa_nil)))))))))), ?_⟩
    have kl := ko.len
    walk_at "h0"
    refine ⟨D, n, ks, rfl, kn, kl, n2, hk, fun T U W H1 s1 fU fW eT ku kw => ?_⟩
    have sT : SqT K H1 T [.ref U, .ref W] := .of eT
    have p1 := hp.same s1
    walk_at "hs"
    intro Fi nFi
    have eFi : upd H1 Fi (.lst []) Fi = some (.lst []) := upd_same
    have b2 : But p H1 (upd H1 Fi (.lst [])) := But.new (But.refl _ _) nFi
    have p2 := p1.own (o := .lst []) nFi
    generalize upd H1 Fi (.lst []) = H2 at eFi p2 b2 ⊢
    walk_at "hs"
    refine ⟨1, (n : Int) + 1, rfl, ⟨by omega, by omega, by omega, by omega⟩, ?_⟩
    refine lp_range (lo := 1) (n := Int.toNat ((n : Int) + 1 - 1)) (fun i σ' H' => (∃ x7 x8 x9 x10 x11 x12, σ' = [some (.ref p), some (.ref D), some (.int n), some (.bl lost), some (.ref U), some (.ref W), some (.ref Fi), x7, x8, x9, x10, x11, x12]) ∧ But p H1 H' ∧ PoolAt H' p (fun a => a = Fi ∨ Fo a) ∧ ∃ us : List (Option Nat), us.length = i ∧ H' Fi = some (.lst (upvs us)) ∧ ∀ b q, us[b]? = some (some q) → q ∈ ks.getD b [])
      ⟨⟨_, _, _, _, _, _, rfl⟩, b2, p2, [], rfl, eFi, fun b q h => nomatch h⟩ ?_ ?_
    · clear b2 p2 eFi
      rintro i σ' H3 hi ⟨⟨x7, x8, x9, x10, x11, x12, rfl⟩, b3, p3, us, ul, eF, uk⟩
      have hin : i < n := by omega
      have hik : i < ks.length := by omega
      obtain ⟨bs, a, eU, ga, ea⟩ := (ku.pool p1 b3).get hik
      have ta : SqT K H3 a (nats ks[i]) := .of ea
      have kn1 := (ko.at_ i _ (List.getElem?_eq_getElem hik)).1
      have kn2 := hk _ (List.getElem_mem hik)
      have leaf : ∀ (o : Option Nat) (H9 : Hp), (∀ z, o = some z → z ∈ ks[i]) → But p H3 H9 → PoolAt H9 p (fun a => a = Fi ∨ Fo a) → But p H1 (upd H9 Fi (.lst (upvs us ++ [upV o]))) ∧ PoolAt (upd H9 Fi (.lst (upvs us ++ [upV o]))) p (fun a => a = Fi ∨ Fo a) ∧ ∃ us2 : List (Option Nat), us2.length = i + 1 ∧ upd H9 Fi (.lst (upvs us ++ [upV o])) Fi = some (.lst (upvs us2)) ∧ ∀ b q, us2[b]? = some (some q) → q ∈ ks.getD b [] := fun o H9 h9 b9 p9 => by
        refine ⟨(b3.trans b9).mutF nFi, p9.mut (.inl rfl), us ++ [o], by rw [List.length_append, ul]; rfl, by rw [upd_same, upvs_app]; rfl, fun b q hb => ?_⟩
        rcases get_snoc hb with g | ⟨rfl, e⟩
        · exact uk b q g
        · rw [ul, List.getD_eq_getElem?_getD, List.getElem?_eq_getElem hik]
          exact h9 q e.symm
      walk_at "hs"
      refine ⟨U, _, rfl, dgetN (.inl eU) ga (by omega), ?_⟩
      walk_at "hs"
      refine ⟨U, _, rfl, dgetN (.inl eU) ga (by omega), ?_⟩
      walk_at "hs"
      rw [nats_length]
      refine ⟨p, (ks[i].length : Nat), _, rfl, p3, by omega, by omega, fun d H4 d0 d1 b4 p4 => ?_⟩
      have ta4 : SqT K H4 a (nats ks[i]) := .of (b4 _ _ (fun z => p3.notTup _ (z ▸ ea)) ea)
      obtain ⟨v, hv, hm⟩ := at_lt (xs := nats ks[i]) d0 (by rw [nats_length]; exact d1)
      obtain ⟨z, hz, rfl⟩ := mem_natsK hm
      have eF4 := b4 _ _ (p3.neF (.inl rfl)) eF
      walk_at "hs"
      have zin : ∀ y, some z = some y → y ∈ ks[i] := fun y e => by cases e; exact hz
      split
      · walk_at "hs"
        refine ⟨p, 4, _, rfl, p4, by decide, by decide, fun d2 H5 c0 c1 b5 p5 => ?_⟩
        have eF5 := b5 _ _ (p4.neF (.inl rfl)) eF4
        walk_at "hs"
        refine x_isd (fun c => ?_) (fun c => ?_)
        · walk_at "hs"
          refine x_append eF5 (szLt (by rw [upvs_length]; omega)) ?_
          exact ⟨⟨_, _, _, _, _, _, rfl⟩, leaf none _ (fun y e => nomatch e) (b4.trans b5) p5⟩
        · walk_at "hs"
          refine x_append eF5 (szLt (by rw [upvs_length]; omega)) ?_
          exact ⟨⟨_, _, _, _, _, _, rfl⟩, leaf (some z) _ zin (b4.trans b5) p5⟩
      · walk_at "hs"
        refine x_append eF4 (szLt (by rw [upvs_length]; omega)) ?_
        exact ⟨⟨_, _, _, _, _, _, rfl⟩, leaf (some z) _ zin b4 p4⟩
    · clear b2 p2 eFi
      rintro σ' H3 ⟨⟨x7, x8, x9, x10, x11, x12, rfl⟩, b3, p3, us, ul, eF, uk⟩
      have ul2 : us.length = n := by omega
      clear ul
      walk_at "hs"
      intro Ro nRo
      have eRo : upd H3 Ro (.lst []) Ro = some (.lst []) := upd_same
      have b4 : But p H1 (upd H3 Ro (.lst [])) := b3.new nRo
      have p4 := p3.own (o := .lst []) nRo
      have eF4 := keepN (o' := .lst []) eF nRo
      have b34 : But p H3 (upd H3 Ro (.lst [])) := But.new (But.refl _ _) nRo
      generalize upd H3 Ro (.lst []) = H4 at eRo b4 p4 eF4 b34 ⊢
      walk_at "hs"
      refine ⟨(n : Int) + 1, rfl, by omega, by omega, ?_⟩
      refine lp_range (lo := 0) (n := Int.toNat ((n : Int) + 1)) (fun i σ' H' => (∃ x7 x8 x10 x11 x12, σ' = [some (.ref p), some (.ref D), some (.int n), some (.bl lost), some (.ref U), some (.ref W), some (.ref Fi), x7, x8, some (.ref Ro), x10, x11, x12]) ∧ But p H3 H' ∧ PoolAt H' p (fun a => a = Ro ∨ a = Fi ∨ Fo a) ∧ H' Fi = some (.lst (upvs us)) ∧ ∃ (as : List Addr) (ls : List (List (Option Bool))), as.length = i ∧ Rows H' as ls ∧ H' Ro = some (.lst (refs as)) ∧ (∀ r ∈ ls, r.length = n) ∧ (∀ m r j f, ls[m]? = some r → r[j]? = some (some f) → f ∈ worthL (ks.getD j []) m) ∧ (∀ m r, ls[m]? = some r → 1 ≤ m → r[m - 1]? ≠ some none))
        ⟨⟨_, _, _, _, _, rfl⟩, b34, p4, eF4, [], [], rfl, ⟨rfl, fun i a r h => nomatch h⟩, eRo, (fun r h => nomatch h), (fun m r j f h => nomatch h), (fun m r h => nomatch h)⟩ ?_ ?_
      · clear b4 p4 eF4 b34 eRo
        rintro i σ' H5 hi ⟨⟨x7, x8, x10, x11, x12, rfl⟩, b5, p5, eF5, as, ls, la, rw5, eR5, rl, rk, dn⟩
        have hin : i ≤ n := by omega
        have i0 : (0 : Int) + (i : Nat) = (i : Nat) := by omega
        rw [i0]
        have lsl : ls.length = i := by rw [← rw5.len, la]
        walk_at "hs"
        intro Rh nRh
        have p6 := p5.own (o := .lst []) nRh
        have eRh : upd H5 Rh (.lst []) Rh = some (.lst []) := upd_same
        have b56 : But p H5 (upd H5 Rh (.lst [])) := But.new (But.refl _ _) nRh
        generalize upd H5 Rh (.lst []) = H6 at eRh p6 b56 ⊢
        walk_at "hs"
        refine ⟨1, (n : Int) + 1, rfl, ⟨by omega, by omega, by omega, by omega⟩, ?_⟩
        refine lp_range (lo := 1) (n := Int.toNat ((n : Int) + 1 - 1)) (fun j σ' H' => (∃ x7 x8 x12, σ' = [some (.ref p), some (.ref D), some (.int n), some (.bl lost), some (.ref U), some (.ref W), some (.ref Fi), x7, x8, some (.ref Ro), some (.int (i : Nat)), some (.ref Rh), x12]) ∧ But p H5 H' ∧ PoolAt H' p (fun a => a = Rh ∨ a = Ro ∨ a = Fi ∨ Fo a) ∧ ∃ c : List (Option Bool), c.length = j ∧ H' Rh = some (.lst (wds c)) ∧ (∀ j f, c[j]? = some (some f) → f ∈ worthL (ks.getD j []) i) ∧ (1 ≤ i → c[i - 1]? ≠ some none))
          ⟨⟨_, _, _, rfl⟩, b56, p6, [], rfl, eRh, (fun j f h => nomatch h), (fun _ h => nomatch h)⟩ ?_ ?_
        · clear eRh p6 b56
          rintro j σ' H7 hj ⟨⟨x7, x8, x12, rfl⟩, b7, p7, c, lc, eRh, ck, cd⟩
          have hjn : j < n := by omega
          have hjk : j < ks.length := by omega
          have bb := (b3.trans b5).trans b7
          obtain ⟨ws, a, eW, va, ea⟩ := (kw.pool p1 bb).get kl hin hjk
          have wp := worthL_pos (k := ks[j]) (p := i)
          have wl := worthL_le ks[j] i
          walk_at "hs"
          intro kt nkt
          have s8 : Same H7 (upd H7 kt (.tup [.int (i : Nat), .int (1 + (j : Nat))])) := same_new (Same.refl _) nkt
          have ekt : upd H7 kt (.tup [.int (i : Nat), .int (1 + (j : Nat))]) kt = some (.tup [.int (i : Nat), .int (1 + (j : Nat))]) := upd_same
          generalize upd H7 kt (.tup [.int (i : Nat), .int (1 + (j : Nat))]) = H8 at s8 ekt ⊢
          have ekt' : H8 kt = some (.tup ((keyW n (i * n + j)).map kV)) := by
            rw [ekt, keyW_at hjn]
            show some (HO.tup [V.int (i : Nat), V.int (1 + (j : Nat))]) = some (HO.tup [V.int (i : Nat), V.int ((j + 1 : Nat) : Int)])
            rw [show (1 : Int) + (j : Nat) = ((j + 1 : Nat) : Int) by omega]
          refine ⟨W, _, rfl, .inr ⟨_, keyW n (i * n + j), kt, .inl (s8 _ _ eW), rfl, ekt', va.symm⟩, ?_⟩
          have p8 := p7.same s8
          have ea8 := s8 _ _ ea
          have eR8 := s8 _ _ eRh
          have sa8 : SqL K H8 a (bls (worthL ks[j] i)) := .of ea8
          have leaf : ∀ (o : Option Bool) (H9 : Hp), (∀ z, o = some z → z ∈ worthL ks[j] i) → (i = j + 1 → o ≠ none) → But p H8 H9 → PoolAt H9 p (fun a => a = Rh ∨ a = Ro ∨ a = Fi ∨ Fo a) → But p H5 (upd H9 Rh (.lst (wds c ++ [wdV o]))) ∧ PoolAt (upd H9 Rh (.lst (wds c ++ [wdV o]))) p (fun a => a = Rh ∨ a = Ro ∨ a = Fi ∨ Fo a) ∧ ∃ c2 : List (Option Bool), c2.length = j + 1 ∧ upd H9 Rh (.lst (wds c ++ [wdV o])) Rh = some (.lst (wds c2)) ∧ (∀ j f, c2[j]? = some (some f) → f ∈ worthL (ks.getD j []) i) ∧ (1 ≤ i → c2[i - 1]? ≠ some none) := fun o H9 h9 no b9 p9 => by
            refine ⟨((b7.trans (But.of s8)).trans b9).mutF nRh, p9.mut (.inl rfl), c ++ [o], by rw [List.length_append, lc]; rfl, by rw [upd_same, wds_app]; rfl, fun b q hb => ?_, fun i1 e => ?_⟩
            · rcases get_snoc hb with g | ⟨rfl, e⟩
              · exact ck b q g
              · rw [lc, List.getD_eq_getElem?_getD, List.getElem?_eq_getElem hjk]
                exact h9 q e.symm
            · rcases get_snoc e with g | ⟨e1, e2⟩
              · exact cd i1 g
              · exact no (by omega) e2.symm
          walk_at "hs"
          rw [bls_len]
          refine ⟨p, ((worthL ks[j] i).length : Nat), _, rfl, p8, by omega, by omega, fun d H9 d0 d1 b9 p9 => ?_⟩
          have sa9 : SqL K H9 a (bls (worthL ks[j] i)) := .of (b9 _ _ (bls_notPool p8 ea8) ea8)
          obtain ⟨v, hv, hm⟩ := at_lt (xs := bls (worthL ks[j] i)) d0 (by rw [bls_len]; exact d1)
          obtain ⟨z, hz, rfl⟩ := mem_blsK hm
          have eR9 := b9 _ _ (p8.neF (.inl rfl)) eR8
          have zin : ∀ y, some z = some y → y ∈ worthL ks[j] i := fun y e => by cases e; exact hz
          walk_at "hs"
          split
          · walk_at "hs"
            refine x_isd (fun c1 => ?_) (fun c1 => ?_)
            · walk_at "hs"
              refine ⟨p, 4, _, rfl, p9, by decide, by decide, fun d2 G c0 c2 b10 p10 => ?_⟩
              have eR10 := b10 _ _ (p9.neF (.inl rfl)) eR9
              walk_at "hs"
              refine x_isd (fun c3 => ?_) (fun c3 => ?_)
              · walk_at "hs"
                refine x_append eR10 (szLt (by rw [wds_length]; omega)) ?_
                exact ⟨⟨_, _, _, rfl⟩, leaf none _ (fun y e => nomatch e) (fun e => absurd (show ((i : Nat) : Int) = 1 + (j : Nat) by omega) c1) (b9.trans b10) p10⟩
              · walk_at "hs"
                refine x_append eR10 (szLt (by rw [wds_length]; omega)) ?_
                exact ⟨⟨_, _, _, rfl⟩, leaf (some z) _ zin (fun _ => nofun) (b9.trans b10) p10⟩
            · walk_at "hs"
              refine x_append eR9 (szLt (by rw [wds_length]; omega)) ?_
              exact ⟨⟨_, _, _, rfl⟩, leaf (some z) _ zin (fun _ => nofun) b9 p9⟩
          · walk_at "hs"
            refine x_append eR9 (szLt (by rw [wds_length]; omega)) ?_
            exact ⟨⟨_, _, _, rfl⟩, leaf (some z) _ zin (fun _ => nofun) b9 p9⟩
        · clear eRh p6 b56
          rintro σ' H7 ⟨⟨x7, x8, x12, rfl⟩, b7, p7, c, lc, eRh, ck, cd⟩
          have lc2 : c.length = n := by omega
          have sRo : SqL K H7 Ro (refs as) := .of (b7 _ _ (p5.neF (.inl rfl)) eR5)
          walk_at "hs"
          intro X nX
          have s8 : Same H7 (upd H7 X (.tup (wds c))) := same_new (Same.refl _) nX
          have eX : upd H7 X (.tup (wds c)) X = some (.tup (wds c)) := upd_same
          generalize upd H7 X (.tup (wds c)) = H8 at s8 eX ⊢
          have eR8 := s8 _ _ (b7 _ _ (p5.neF (.inl rfl)) eR5)
          have eF8 := s8 _ _ (b7 _ _ (p5.neF (.inr (.inl rfl))) eF5)
          have p8 := p7.same s8
          have b78 := b7.trans (But.of s8)
          walk_at "hs"
          refine x_append eR8 (szLt (by rw [refs_length]; omega)) ?_
          have bR : But Ro H8 (upd H8 Ro (.lst (refs as ++ [.ref X]))) := But.mut (But.refl _ _)
          have ntR : ∀ xs, H8 Ro ≠ some (.tup xs) := fun xs z => by rw [eR8] at z; cases z
          have nXR : X ≠ Ro := fun z => by rw [z, eR8] at eX; cases eX
          have nFR : Fi ≠ Ro := Ne.symm (fun z => by
            have := ne_of_none eF nRo
            exact this z.symm)
          have rw8 := (rw5.but b78 p5.notTup).but bR ntR
          refine ⟨⟨_, _, _, _, _, rfl⟩, (b5.trans b78).mutF nRo, (p8.weak (fun a h => Or.inr h)).mut (.inl rfl), by rw [upd_ne nFR]; exact eF8, as ++ [X], ls ++ [c], by rw [List.length_append, la]; rfl, ⟨by rw [List.length_append, List.length_append, rw5.len]; rfl, fun m a r ha hr => ?_⟩, by rw [upd_same]; exact congrArg some (congrArg HO.lst (refs_snoc as X)), fun r hr => ?_, fun m r j f hr hj => ?_, fun m r hr m1 => ?_⟩
          · rcases get_snoc ha with g | ⟨rfl, rfl⟩
            · rcases get_snoc hr with g2 | ⟨e2, rfl⟩
              · exact rw8.at_ m a r g g2
              · have := (List.getElem?_eq_some_iff.mp g).1
                rw [rw5.len] at this
                omega
            · rcases get_snoc hr with g2 | ⟨e2, rfl⟩
              · have := (List.getElem?_eq_some_iff.mp g2).1
                rw [← rw5.len] at this
                omega
              · rw [upd_ne nXR]
                exact eX
          · rcases List.mem_append.mp hr with hr | hr
            · exact rl r hr
            · rw [List.mem_singleton.mp hr]
              exact lc2
          · rcases get_snoc hr with g2 | ⟨rfl, rfl⟩
            · exact rk m r j f g2 hj
            · rw [lsl]
              exact ck j f hj
          · rcases get_snoc hr with g2 | ⟨rfl, rfl⟩
            · exact dn m r g2 m1
            · rw [lsl]
              exact cd (by omega)
      · clear b4 p4 eF4 b34 eRo
        rintro σ' H5 ⟨⟨x7, x8, x10, x11, x12, rfl⟩, b5, p5, eF5, as, ls, la, rw5, eR5, rl, rk, dn⟩
        have ll : ls.length = n + 1 := by rw [← rw5.len, la]; omega
        walk_at "hs"
        intro Y nY
        have s6 : Same H5 (upd H5 Y (.tup (upvs us))) := same_new (Same.refl _) nY
        have eY : upd H5 Y (.tup (upvs us)) Y = some (.tup (upvs us)) := upd_same
        generalize upd H5 Y (.tup (upvs us)) = H6 at s6 eY ⊢
        have sR6 : SqL K H6 Ro (refs as) := .of (s6 _ _ eR5)
        walk_at "hs"
        intro X nX
        have s7 : Same H6 (upd H6 X (.tup (refs as))) := same_new (Same.refl _) nX
        have eX : upd H6 X (.tup (refs as)) X = some (.tup (refs as)) := upd_same
        generalize upd H6 X (.tup (refs as)) = H7 at s7 eX ⊢
        walk_at "hs"
        intro T2 nT
        have s8 : Same H7 (upd H7 T2 (.tup [.ref Y, .ref X])) := same_new (Same.refl _) nT
        have eT2 : upd H7 T2 (.tup [.ref Y, .ref X]) T2 = some (.tup [.ref Y, .ref X]) := upd_same
        generalize upd H7 T2 (.tup [.ref Y, .ref X]) = H8 at s8 eT2 ⊢
        have s68 := (s6.trans s7).trans s8
        obtain ⟨wd, sa⟩ := words_fit ko n1 n2 ul2 uk ll rl rk dn
        exact q T2 Y X us ls as H8 ((But.of s1).trans ((b3.trans b5).trans (But.of s68))) ((p5.same s68).weak fun a h => .inr (.inr h)) eT2 ((s7.trans s8) _ _ eY) (s8 _ _ eX) (rw5.same s68) wd sa
end
set_option maxRecDepth 100000
set_option maxHeartbeats 2000000
open PySem PySem.Spec L2


local macro_rules | `(tactic| walk_at "h1") => `(tactic| first
  | with_reducible refine x_dget ?_
  | with_reducible refine x_dc ?_
  | with_reducible refine x_keysF ?_
  | with_reducible refine x_keysFT ?_)

theorem sc__law_turned : FnScope ["_law_hand_here", "_law_many", "_law_ups", "_law_lists", "_law_block", "_law_place", "_law_other", "_law_row_here", "_law_at"] ["_law_hand_here", "_law_many", "_law_ups", "_law_lists"] (defScope s__law_turned) := ⟨rfl, rfl, rfl, by decide +kernel, rfl, by decide +kernel, by decide +kernel⟩
theorem pe_notTK {X : Cx} {K : PySem.W.Frag} {a : Expr} {ta : TE} {pos : Pos} (e : X.K = K) (ha : PE X a ta) : PE X (.UnaryOp .Not a pos) (tNotT K ta) := by
  subst e
  exact pe_notT ha
theorem WdOk.setUp {n b q : Nat} {us : List (Option Nat)} {ls : List (List (Option Bool))} (h : WdOk n us ls) (hq : q ≤ n) (hb : q ≠ b + 1) : WdOk n (us.set b (some q)) ls := by
  refine ⟨h.n1, h.n2, by rw [List.length_set]; exact h.ul, fun c z e => ?_, h.ll, h.rl, h.dg⟩
  rw [List.getElem?_set] at e
  split at e
  · rename_i c
    subst c
    split at e
    · cases e
      exact ⟨hq, hb⟩
    · cases e
  · exact h.uo c z e
theorem WdOk.setRow {n p b : Nat} {us : List (Option Nat)} {ls : List (List (Option Bool))} {o : Option Bool} {r : List (Option Bool)} (h : WdOk n us ls) (hr : ls[p]? = some r) (hp : p ≠ b + 1) : WdOk n us (ls.set p (r.set b o)) := by
  refine ⟨h.n1, h.n2, h.ul, h.uo, by rw [List.length_set]; exact h.ll, fun x hx => ?_, fun m x e m1 => ?_⟩
  · rcases List.mem_or_eq_of_mem_set hx with hx | rfl
    · exact h.rl x hx
    · rw [List.length_set]
      exact h.rl r (List.mem_of_getElem? hr)
  · rw [List.getElem?_set] at e
    split at e
    · rename_i c
      subst c
      split at e
      · cases e
        rw [List.getElem?_set, if_neg (by omega)]
        exact h.dg p r hr m1
      · cases e
    · exact h.dg m x e m1
theorem Rows.set {H : Hp} {as : List Addr} {ls : List (List (Option Bool))} {i : Nat} {a : Addr} {r : List (Option Bool)} (h : Rows H as ls) (ha : H a = some (.tup (wds r))) : Rows H (as.set i a) (ls.set i r) := by
  refine ⟨by rw [List.length_set, List.length_set]; exact h.len, fun j b m hb hm => ?_⟩
  rw [List.getElem?_set] at hb hm
  by_cases c : i = j
  · subst c
    rw [if_pos rfl] at hb hm
    split at hb
    · split at hm
      · cases hb
        cases hm
        exact ha
      · cases hm
    · cases hb
  · rw [if_neg c] at hb hm
    exact h.at_ j b m hb hm
def truO : Option Bool → Bool
  | none => false
  | some f => f
theorem truO_ok {K : PySem.W.Frag} {H : Hp} (o : Option Bool) : TruV K (wdV o) H (truO o) := by
  cases o <;> rfl
def oth (b : Nat) : Nat → List Nat
  | 0 => []
  | n + 1 => oth b n ++ if n = b then [] else [n]
theorem oth_le (b : Nat) : ∀ n, (oth b n).length ≤ n
  | 0 => Nat.le_refl _
  | n + 1 => by
    have ih := oth_le b n
    show (oth b n ++ _).length ≤ n + 1
    rw [List.length_append]
    split
    · show _ + 0 ≤ _
      omega
    · show _ + 1 ≤ _
      omega
theorem oth_len (b : Nat) : ∀ n, n ≤ (oth b n).length + (if b < n then 1 else 0)
  | 0 => Nat.zero_le _
  | n + 1 => by
    have ih := oth_len b n
    show n + 1 ≤ (oth b n ++ _).length + _
    rw [List.length_append]
    by_cases c : n = b
    · subst c
      rw [if_pos rfl, if_pos (Nat.lt_succ_self _)]
      rw [if_neg (Nat.lt_irrefl _)] at ih
      show n + 1 ≤ _ + 0 + 1
      omega
    · rw [if_neg c]
      show n + 1 ≤ _ + 1 + _
      by_cases c2 : b < n
      · rw [if_pos c2] at ih
        rw [if_pos (by omega)]
        omega
      · rw [if_neg c2] at ih
        rw [if_neg (by omega)]
        omega
theorem oth_mem {b z : Nat} : ∀ {n : Nat}, z ∈ oth b n → z < n ∧ z ≠ b
  | 0, h => nomatch h
  | n + 1, h => by
    rcases List.mem_append.mp h with h | h
    · have := oth_mem h
      exact ⟨by omega, this.2⟩
    · split at h
      · cases h
      · rename_i c
        rw [List.mem_singleton.mp h]
        exact ⟨by omega, c⟩
theorem set_cut {xs : List V} {k : Nat} {v : V} (hk : k < xs.length) : xs.take k ++ [v] ++ xs.drop (k + 1) = xs.set k v := by
  rw [List.set_eq_take_append_cons_drop, if_pos hk, List.append_assoc]
  rfl
theorem upvs_set (us : List (Option Nat)) (i : Nat) (o : Option Nat) : (upvs us).set i (upV o) = upvs (us.set i o) := by
  unfold upvs
  rw [List.map_set]
theorem wds_set (c : List (Option Bool)) (i : Nat) (o : Option Bool) : (wds c).set i (wdV o) = wds (c.set i o) := by
  unfold wds
  rw [List.map_set]
section
variable {P : Program} {w : World} {K : PySem.W.Frag} {mg : Str → Option Value} {base : Heap} {Z : Ad}
def spTurned : Sp := fun vs H Q _ => ∃ (p tu tl : Addr) (n : Nat) (us : List (Option Nat)) (ls : List (List (Option Bool))) (rs : List Addr) (F : Addr → Prop), vs = [.ref p, .int n, .ref tu, .ref tl] ∧ PoolAt H p F ∧ H tu = some (.tup (upvs us)) ∧ H tl = some (.tup (refs rs)) ∧ Rows H rs ls ∧ WdOk n us ls ∧
  ∀ (T tu2 tl2 : Addr) (us2 : List (Option Nat)) (ls2 : List (List (Option Bool))) (rs2 : List Addr) H', But p H H' → PoolAt H' p F → H' T = some (.tup [.ref tu2, .ref tl2]) → H' tu2 = some (.tup (upvs us2)) → H' tl2 = some (.tup (refs rs2)) → Rows H' rs2 ls2 → WdOk n us2 ls2 → Q (.ref T) H'
theorem ok_turned {f : Addr} {fd : FuncData} (F : Fun K "_law_turned" "_law_turned" s__law_turned f fd) (B : Bl Z mg) {f__law_draw : Addr} {fd__law_draw : FuncData} (C__law_draw : Cal K mg "_law_draw" f__law_draw fd__law_draw ["_law_hand_here", "_law_many"]) (G__law_draw : FnOk P w K mg base CX0 1 f__law_draw fd__law_draw ["_law_hand_here", "_law_many"] spDraw) : FnOk P w K mg base CX0 2 f fd ["_law_hand_here", "_law_many", "_law_ups", "_law_lists"] spTurned := by
  refine F.ok sc__law_turned (fun vs H Q E h => ?_) (fun cdv A outer s H vs Q E hr h => ?_)
  · obtain ⟨p, tu, tl, n, us, ls, rs, Fo, rfl, _⟩ := h
    rfl
  · obtain ⟨p, tu, tl, n, us, ls, rs, Fo, rfl, hp, hu, hl, hw, ok, q⟩ := h
    refine ⟨_, (pss_cons (ps_set (i := 4) sc__law_turned.nd rfl (Or.inr rfl) (pe_op op_add pe_int (pe_call G__law_draw (hr.mono (by first | decide | omega)) (by rfl) C__law_draw.g C__law_draw.k C__law_draw.b .nil pass0 (pa_cons (pv 0) (pa_cons (pv 1) pa_nil)))))
 (pss_cons (ps_set (i := 5) sc__law_turned.nd rfl (Or.inl rfl) (pe_call G__law_draw (hr.mono (by first | decide | omega)) (by rfl) C__law_draw.g C__law_draw.k C__law_draw.b .nil pass0 (pa_cons (pv 0) (pa_cons (pe_op op_add (pv 1) pe_int) pa_nil))))
 (pss_cons (ps_if (PW.pt (pw_or (pt_cmpR op_eq (pe_call G__law_draw (hr.mono (by first | decide | omega)) (by rfl) C__law_draw.g C__law_draw.k C__law_draw.b .nil pass0 (pa_cons (pv 0) (pa_cons pe_int pa_nil))) pe_int (nomark _)) (pw_or1 (pt_cmpR op_eq (pv 5) (pv 4) (nomark _))))) (pss_cons (ps_set (i := 6) sc__law_turned.nd rfl (Or.inl rfl) (pe_ix (ix_listK (K := K) rfl) (pe_lc (own := [("_law_at", 8)]) rfl sc__law_turned.nd (pi_range1 rfl B.b_range (pa_cons (pe_op op_add (pv 1) pe_int) pa_nil)) (blkOk_by (N := ["_law_hand_here", "_law_many", "_law_ups", "_law_lists", "_law_block", "_law_place", "_law_other", "_law_row_here", "_law_at"]) (sc := defScope s__law_turned) (by decide +kernel)) (fun _ _ _ _ _ => (pg_name (i := 8) sc__law_turned.nd rfl (Or.inl rfl))) (fun _ _ _ _ _ => (pts_one (pt_cmpR op_ne (pv 8) (pv 4) (nomark _)))) (fun _ _ _ _ _ => (pv 8))) (pe_call G__law_draw (hr.mono (by first | decide | omega)) (by rfl) C__law_draw.g C__law_draw.k C__law_draw.b .nil pass0 (pa_cons (pv 0) (pa_cons (pv 1) pa_nil))) (fun _ _ => rfl)))
 (pss_one (ps_ret (pe_tup (pa_cons (pe_op (op_catAK (K := K) rfl) (pe_op (op_catAK (K := K) rfl) (pe_slice (sl_tupAK (K := K) rfl) (pv 2) po_none (po_some (pe_op op_sub (pv 4) pe_int))) (pe_tup (pa_cons (pv 6) pa_nil))) (pe_slice (sl_tupAK (K := K) rfl) (pv 2) (po_some (pv 4)) po_none)) (pa_cons (pv 3) pa_nil)))))) pss_nil)
 (pss_cons (ps_set (i := 7) sc__law_turned.nd rfl (Or.inl rfl) (pe_ix (ix_tupK (K := K) rfl) (pv 3) (pv 5) (fun _ _ => rfl)))
 (pss_cons (ps_set (i := 7) sc__law_turned.nd rfl (Or.inl rfl) (pe_op (op_catAK (K := K) rfl) (pe_op (op_catAK (K := K) rfl) (pe_slice (sl_tupAK (K := K) rfl) (pv 7) po_none (po_some (pe_op op_sub (pv 4) pe_int))) (pe_tup (pa_cons (pe_notTK (K := K) rfl (pe_ix (ix_tupK (K := K) rfl) (pv 7) (pe_op op_sub (pv 4) pe_int) (fun _ _ => rfl))) pa_nil))) (pe_slice (sl_tupAK (K := K) rfl) (pv 7) (po_some (pv 4)) po_none)))
 (pss_one (ps_ret (pe_tup (pa_cons (pv 2) (pa_cons (pe_op (op_catAK (K := K) rfl) (pe_op (op_catAK (K := K) rfl) (pe_slice (sl_tupAK (K := K) rfl) (pv 3) po_none (po_some (pv 5))) (pe_tup (pa_cons (pv 7) pa_nil))) (pe_slice (sl_tupAK (K := K) rfl) (pv 3) (po_some (pe_op op_add (pv 5) pe_int)) po_none)) pa_nil)))))))))), ?_⟩
    have n1 := ok.n1
    have n2 := ok.n2
    have ull : (upvs us).length = n := by rw [upvs_length, ok.ul]
    have rsl : (refs rs).length = n + 1 := by rw [refs_length, hw.len, ok.ll]
    walk_at "h0"
    refine ⟨p, n, _, rfl, hp, by omega, by omega, fun d H1 d0 d1 b1 p1 => ?_⟩
    obtain ⟨b, rfl⟩ : ∃ b : Nat, d = (b : Int) := ⟨d.toNat, by omega⟩
    walk_at "hs"
    refine ⟨p, (n : Int) + 1, _, rfl, p1, by omega, by omega, fun d2 H2 e0 e1 b2 p2 => ?_⟩
    obtain ⟨pl, rfl⟩ : ∃ pl : Nat, d2 = (pl : Int) := ⟨d2.toNat, by omega⟩
    walk_at "hs"
    refine ⟨p, 2, _, rfl, p2, by decide, by decide, fun d3 H3 f0 f1 b3 p3 => ?_⟩
    have b13 := (b1.trans b2).trans b3
    have hu3 := b13 _ _ (fun z => hp.notTup _ (z ▸ hu)) hu
    have hl3 := b13 _ _ (fun z => hp.notTup _ (z ▸ hl)) hl
    have hw3 := hw.but b13 hp.notTup
    have sl3 : SqT K H3 tl (refs rs) := .of hl3
    have k1 : (1 : Int) + (b : Nat) - 1 = (b : Nat) := by omega
    have k2 : (1 : Int) + (b : Nat) = ((b + 1 : Nat) : Int) := by omega
    walk_at "hs"
    refine x_isd (fun c => ?_) (fun c => ?_)
    · walk_at "hs"
      refine ⟨(n : Int) + 1, rfl, by omega, by omega, fun L nL => ?_⟩
      refine lc_range (lo := 0) (n := Int.toNat ((n : Int) + 1)) (fun i G => Same H3 G ∧ G L = some (.lst (nats (oth (b + 1) i)))) ⟨same_new (Same.refl _) nL, upd_same⟩ ?_ ?_
      · rintro i G hi ⟨s4, eL⟩
        have hl1 := oth_le (b + 1) i
        walk_at "hs"
        refine ⟨rfl, ?_⟩
        walk_at "hs"
        refine x_isd (fun c => ?_) (fun c => ?_)
        · walk_at "hs"
          refine ⟨_, eL, szLt (by rw [nats_length]; omega), same_mut s4 nL, ?_⟩
          rw [upd_same, show oth (b + 1) (i + 1) = oth (b + 1) i ++ [i] from congrArg _ (if_neg (by omega)), show (0 : Int) + (i : Nat) = (i : Nat) by omega, nats_append]
          rfl
        · refine ⟨s4, ?_⟩
          rw [eL, show oth (b + 1) (i + 1) = oth (b + 1) i ++ [] from congrArg _ (if_pos (by omega)), List.append_nil]
      rintro G ⟨s4, eL⟩
      have en : Int.toNat ((n : Int) + 1) = n + 1 := by omega
      rw [en] at eL
      have ln := oth_len (b + 1) (n + 1)
      have ln2 : (if b + 1 < n + 1 then 1 else 0) ≤ 1 := by split <;> decide
      walk_at "hs"
      refine ⟨p, n, _, rfl, p3.same s4, by omega, by omega, fun d4 G2 g0 g1 b5 p5 => ?_⟩
      have nLp : L ≠ p := p3.ne nL
      have sL : SqL K G2 L (nats (oth (b + 1) (n + 1))) := .of (b5 _ _ nLp eL)
      obtain ⟨v, hv, hm⟩ := at_lt (xs := nats (oth (b + 1) (n + 1))) g0 (by rw [nats_length]; omega)
      obtain ⟨z, hz, rfl⟩ := mem_natsK hm
      have hz1 := oth_mem hz
      have hz2 : z ≤ n := by omega
      have hz3 : z ≠ b + 1 := hz1.2
      have b15 := (But.of s4).trans b5
      have hu5 := b15 _ _ (fun z => p3.notTup _ (z ▸ hu3)) hu3
      walk_at "hs"
      refine x_slA hu5 fun D2 G3 s6 e2 => ?_
      rw [k1, cut_take] at e2
      walk_at "hs"
      intro P1 nP1
      have s7 : Same G3 (upd G3 P1 (.tup [.int (z : Nat)])) := same_new (Same.refl _) nP1
      have eP1 : upd G3 P1 (.tup [.int (z : Nat)]) P1 = some (.tup [.int (z : Nat)]) := upd_same
      generalize upd G3 P1 (.tup [.int (z : Nat)]) = G4 at s7 eP1 ⊢
      refine x_catA (s7 _ _ e2) eP1 (by rw [List.length_take, List.length_cons, List.length_nil]; omega) fun D3 G5 s8 e3 => ?_
      have s68 := (s6.trans s7).trans s8
      walk_at "hs"
      refine x_slA (s68 _ _ hu5) fun D4 G6 s9 e4 => ?_
      rw [k2, cut_drop] at e4
      refine x_catA (s9 _ _ e3) e4 (by rw [List.length_append, List.length_take, List.length_drop, List.length_cons, List.length_nil]; omega) fun D5 G7 s10 e5 => ?_
      rw [set_cut (by omega)] at e5
      have e5' : G7 D5 = some (.tup (upvs (us.set b (some z)))) := by rw [e5, ← upvs_set]; rfl
      walk_at "hs"
      intro T nT
      have s11 : Same G7 (upd G7 T (.tup [.ref D5, .ref tl])) := same_new (Same.refl _) nT
      have eT : upd G7 T (.tup [.ref D5, .ref tl]) T = some (.tup [.ref D5, .ref tl]) := upd_same
      generalize upd G7 T (.tup [.ref D5, .ref tl]) = G8 at s11 eT ⊢
      walk_at "hs"
      have s611 := ((s68.trans s9).trans s10).trans s11
      exact q T D5 tl _ ls rs G8 ((b13.trans b15).trans (But.of s611)) (p5.same s611) eT (s11 _ _ e5') (s611 _ _ (b15 _ _ (fun z => p3.notTup _ (z ▸ hl3)) hl3)) ((hw3.but b15 p3.notTup).same s611) (ok.setUp hz2 hz3)
    · walk_at "hs"
      refine x_isd (fun c2 => ?_) (fun c2 => ?_)
      · walk_at "hs"
        refine ⟨(n : Int) + 1, rfl, by omega, by omega, fun L nL => ?_⟩
        refine lc_range (lo := 0) (n := Int.toNat ((n : Int) + 1)) (fun i G => Same H3 G ∧ G L = some (.lst (nats (oth (b + 1) i)))) ⟨same_new (Same.refl _) nL, upd_same⟩ ?_ ?_
        · rintro i G hi ⟨s4, eL⟩
          have hl1 := oth_le (b + 1) i
          walk_at "hs"
          refine ⟨rfl, ?_⟩
          walk_at "hs"
          refine x_isd (fun c => ?_) (fun c => ?_)
          · walk_at "hs"
            refine ⟨_, eL, szLt (by rw [nats_length]; omega), same_mut s4 nL, ?_⟩
            rw [upd_same, show oth (b + 1) (i + 1) = oth (b + 1) i ++ [i] from congrArg _ (if_neg (by omega)), show (0 : Int) + (i : Nat) = (i : Nat) by omega, nats_append]
            rfl
          · refine ⟨s4, ?_⟩
            rw [eL, show oth (b + 1) (i + 1) = oth (b + 1) i ++ [] from congrArg _ (if_pos (by omega)), List.append_nil]
        rintro G ⟨s4, eL⟩
        have en : Int.toNat ((n : Int) + 1) = n + 1 := by omega
        rw [en] at eL
        have ln := oth_len (b + 1) (n + 1)
        have ln2 : (if b + 1 < n + 1 then 1 else 0) ≤ 1 := by split <;> decide
        walk_at "hs"
        refine ⟨p, n, _, rfl, p3.same s4, by omega, by omega, fun d4 G2 g0 g1 b5 p5 => ?_⟩
        have nLp : L ≠ p := p3.ne nL
        have sL : SqL K G2 L (nats (oth (b + 1) (n + 1))) := .of (b5 _ _ nLp eL)
        obtain ⟨v, hv, hm⟩ := at_lt (xs := nats (oth (b + 1) (n + 1))) g0 (by rw [nats_length]; omega)
        obtain ⟨z, hz, rfl⟩ := mem_natsK hm
        have hz1 := oth_mem hz
        have hz2 : z ≤ n := by omega
        have hz3 : z ≠ b + 1 := hz1.2
        have b15 := (But.of s4).trans b5
        have hu5 := b15 _ _ (fun z => p3.notTup _ (z ▸ hu3)) hu3
        walk_at "hs"
        refine x_slA hu5 fun D2 G3 s6 e2 => ?_
        rw [k1, cut_take] at e2
        walk_at "hs"
        intro P1 nP1
        have s7 : Same G3 (upd G3 P1 (.tup [.int (z : Nat)])) := same_new (Same.refl _) nP1
        have eP1 : upd G3 P1 (.tup [.int (z : Nat)]) P1 = some (.tup [.int (z : Nat)]) := upd_same
        generalize upd G3 P1 (.tup [.int (z : Nat)]) = G4 at s7 eP1 ⊢
        refine x_catA (s7 _ _ e2) eP1 (by rw [List.length_take, List.length_cons, List.length_nil]; omega) fun D3 G5 s8 e3 => ?_
        have s68 := (s6.trans s7).trans s8
        walk_at "hs"
        refine x_slA (s68 _ _ hu5) fun D4 G6 s9 e4 => ?_
        rw [k2, cut_drop] at e4
        refine x_catA (s9 _ _ e3) e4 (by rw [List.length_append, List.length_take, List.length_drop, List.length_cons, List.length_nil]; omega) fun D5 G7 s10 e5 => ?_
        rw [set_cut (by omega)] at e5
        have e5' : G7 D5 = some (.tup (upvs (us.set b (some z)))) := by rw [e5, ← upvs_set]; rfl
        walk_at "hs"
        intro T nT
        have s11 : Same G7 (upd G7 T (.tup [.ref D5, .ref tl])) := same_new (Same.refl _) nT
        have eT : upd G7 T (.tup [.ref D5, .ref tl]) T = some (.tup [.ref D5, .ref tl]) := upd_same
        generalize upd G7 T (.tup [.ref D5, .ref tl]) = G8 at s11 eT ⊢
        walk_at "hs"
        have s611 := ((s68.trans s9).trans s10).trans s11
        exact q T D5 tl _ ls rs G8 ((b13.trans b15).trans (But.of s611)) (p5.same s611) eT (s11 _ _ e5') (s611 _ _ (b15 _ _ (fun z => p3.notTup _ (z ▸ hl3)) hl3)) ((hw3.but b15 p3.notTup).same s611) (ok.setUp hz2 hz3)
      · have hpl : pl < (refs rs).length := by omega
        have plb : pl ≠ b + 1 := by omega
        have hpl2 : pl < ls.length := by rw [ok.ll]; omega
        obtain ⟨r, hr0, er⟩ := hw3.get hpl2
        have ar : atI (refs rs) (pl : Int) = some (.ref r) := atI_nat (refs_get hr0)
        have rl := ok.rl _ (List.getElem_mem hpl2)
        have hbr : b < ls[pl].length := by omega
        have wl : (wds ls[pl]).length = n := by rw [wds_length, rl]
        walk_at "hs"
        refine x_slA er fun D2 G3 s6 e2 => ?_
        rw [k1, cut_take] at e2
        have er3 := s6 _ _ er
        have sr3 : SqT K G3 r (wds ls[pl]) := .of er3
        have ab : atI (wds ls[pl]) (1 + (b : Int) - 1) = some (wdV ls[pl][b]) := at_pred (wds_get (List.getElem?_eq_getElem hbr))
        walk_at "hs"
        unfold tNotT
        walk_at "hs"
        refine ⟨_, truO_ok _, ?_⟩
        walk_at "hs"
        intro P1 nP1
        have s7 : Same G3 (upd G3 P1 (.tup [.bl (!truO ls[pl][b])])) := same_new (Same.refl _) nP1
        have eP1 : upd G3 P1 (.tup [.bl (!truO ls[pl][b])]) P1 = some (.tup [.bl (!truO ls[pl][b])]) := upd_same
        generalize upd G3 P1 (.tup [.bl (!truO ls[pl][b])]) = G4 at s7 eP1 ⊢
        refine x_catA (s7 _ _ e2) eP1 (by rw [List.length_take, List.length_cons, List.length_nil]; omega) fun D3 G5 s8 e3 => ?_
        have s68 := (s6.trans s7).trans s8
        walk_at "hs"
        refine x_slA (s68 _ _ er) fun D4 G6 s9 e4 => ?_
        rw [k2, cut_drop] at e4
        refine x_catA (s9 _ _ e3) e4 (by rw [List.length_append, List.length_take, List.length_drop, List.length_cons, List.length_nil]; omega) fun D5 G7 s10 e5 => ?_
        rw [set_cut (by omega)] at e5
        have e5' : G7 D5 = some (.tup (wds (ls[pl].set b (some (!truO ls[pl][b]))))) := by rw [e5, ← wds_set]; rfl
        have s610 := (s68.trans s9).trans s10
        walk_at "hs"
        refine x_slA (s610 _ _ hl3) fun D6 G8 s11 e6 => ?_
        rw [cut_take] at e6
        walk_at "hs"
        intro P2 nP2
        have s12 : Same G8 (upd G8 P2 (.tup [.ref D5])) := same_new (Same.refl _) nP2
        have eP2 : upd G8 P2 (.tup [.ref D5]) P2 = some (.tup [.ref D5]) := upd_same
        generalize upd G8 P2 (.tup [.ref D5]) = G9 at s12 eP2 ⊢
        refine x_catA (s12 _ _ e6) eP2 (by rw [List.length_take, List.length_cons, List.length_nil]; omega) fun D7 G10 s13 e7 => ?_
        have s1113 := (s11.trans s12).trans s13
        walk_at "hs"
        refine x_slA (s1113 _ _ (s610 _ _ hl3)) fun D8 G11 s14 e8 => ?_
        rw [show ((pl : Nat) : Int) + 1 = ((pl + 1 : Nat) : Int) by omega, cut_drop] at e8
        refine x_catA (s14 _ _ e7) e8 (by rw [List.length_append, List.length_take, List.length_drop, List.length_cons, List.length_nil]; omega) fun D9 G12 s15 e9 => ?_
        rw [set_cut hpl] at e9
        have e9' : G12 D9 = some (.tup (refs (rs.set pl D5))) := by rw [e9, ← refs_set]
        walk_at "hs"
        intro T nT
        have s16 : Same G12 (upd G12 T (.tup [.ref tu, .ref D9])) := same_new (Same.refl _) nT
        have eT : upd G12 T (.tup [.ref tu, .ref D9]) T = some (.tup [.ref tu, .ref D9]) := upd_same
        generalize upd G12 T (.tup [.ref tu, .ref D9]) = G13 at s16 eT ⊢
        walk_at "hs"
        have s1115 := ((s1113.trans s14).trans s15).trans s16
        have sAll := s610.trans s1115
        exact q T tu D9 us _ _ G13 (b13.trans (But.of sAll)) (p3.same sAll) eT (sAll _ _ hu3) (s16 _ _ e9') ((hw3.same sAll).set (s1115 _ _ e5')) (ok.setRow (List.getElem?_eq_getElem hpl2) plb)
end
set_option maxRecDepth 100000
set_option maxHeartbeats 4000000
open PySem PySem.Spec L2


local macro_rules | `(tactic| walk_at "h1") => `(tactic| first
  | with_reducible refine x_dget ?_
  | with_reducible refine x_dc ?_
  | with_reducible refine x_keysF ?_
  | with_reducible refine x_keysFT ?_)

theorem spTree_of {Z : Ad} {H : Hp} {R : Hp → Prop} {a m dm : Addr} {hs : List Nat} (t : IsTree hs) (ha : H a = some (.tup (nats hs))) (hm : H m = none) (hdm : H dm = none) (ne : dm ≠ m) (q : ∀ H', Same H H' → TreeAt Z H' m hs → R H') :
    spTree Z (.ref m :: ([.ref a] ++ [])) (upd (upd H dm (.own m)) m (.ins Z.a_Tree dm [])) (fun v H2 => v = .non ∧ R H2) (fun _ _ _ => False) := by
  have hm2 : upd H dm (.own m) m = none := by
    rw [upd_ne (Ne.symm ne)]
    exact hm
  have s0 : Same H (upd (upd H dm (.own m)) m (.ins Z.a_Tree dm [])) := same_new (same_new (Same.refl H) hdm) hm2
  have hk : ∀ y ∈ nats hs, Kn H y := fun y hy => by
    obtain ⟨n, _, rfl⟩ := List.mem_map.mp hy
    exact True.intro
  have hx : Thing H (.ref a) := .inl ⟨a, _, rfl, ha, hk⟩
  have due : DueV H (.ref a) .ok := .inl ⟨a, _, rfl, ha, tree_ok t, hk⟩
  refine ⟨m, dm, .ref a, rfl, upd_same, hx.same s0, fun H' hd b1 hm1 => ⟨rfl, ?_⟩, fun d e v H' nd hd ht s1 he => nd ((hx.back s0 hd).det due)⟩
  have s1 : Same H H' := fun b o e => b1 _ _ (ne_of_none e hm) (s0 _ _ e)
  exact q H' s1 ⟨dm, a, hm1, s1 _ _ ha⟩
theorem hgOk_of {hs : List Nat} (t : IsTree hs) : HgOk hs := fun i p e => by
  have hi := (List.getElem?_eq_some_iff.mp e).1
  refine ⟨t.le p (List.mem_of_getElem? e), fun z => ?_⟩
  refine no_ring t (k := i + 1) (m := 1) (by omega) (by omega) (Nat.le_refl _) ?_
  show up hs (i + 1) = i + 1
  unfold up
  rw [if_neg (by omega), Nat.add_sub_cancel, List.getD_eq_getElem?_getD, e]
  exact z
theorem mvOk_of {hs : List Nat} {ms : List (Nat × Nat)} (h : OkAll hs ms) : MvOk hs.length ms := fun m hm => by
  obtain ⟨i, hi, rfl⟩ := List.getElem_of_mem hm
  obtain ⟨a, b, c, d, _⟩ := h i _ (List.getElem?_eq_getElem hi)
  rw [final_len] at b c
  exact ⟨a, b, c, d⟩
section
variable {P : Program} {w : World} {K : PySem.W.Frag} {mg : Str → Option Value} {base : Heap} {Z : Ad}
theorem dd_known {H : Hp} {D D2 : Addr} {ks : List (List Nat)} (h1 : KnownAt H D ks) (h2 : KnownAt H D2 ks) : DdEq K H (.ref D) (.ref D2) := by
  obtain ⟨as, e1, t1⟩ := h1
  obtain ⟨bs, e2, t2⟩ := h2
  refine ⟨D, D2, _, _, rfl, rfl, e1, e2, by rw [kdl_len, kdl_len, refs_length, refs_length, t1.1, t2.1], fun p hp => ?_⟩
  obtain ⟨i, hi⟩ := List.getElem?_of_mem hp
  obtain ⟨e, ev⟩ := kdl_at (q := p.1) (v := p.2) hi
  have li := (List.getElem?_eq_some_iff.mp ev).1
  rw [refs_length, t1.1] at li
  obtain ⟨a, ha, ea⟩ := t1.get li
  obtain ⟨b, hb, eb⟩ := t2.get li
  have ep : p.2 = .ref a := Option.some.inj (ev.symm.trans (refs_get ha))
  refine ⟨.ref b, ?_, ?_⟩
  · rw [e]
    exact kdl_val (refs_get hb)
  · rw [ep]
    exact pd_tup (.of ea) (.of eb)
theorem HistAt.pool {H H' : Hp} {p x : Addr} {F : Addr → Prop} {hs : List Nat} {ms : List (Nat × Nat)} (hp : PoolAt H p F) (b : But p H H') (h : HistAt Z H x hs ms) : HistAt Z H' x hs ms := by
  obtain ⟨dh, t, u, vs, h1, ⟨dt, tt, h2, h2'⟩, h3, h4⟩ := h
  obtain ⟨ls, el⟩ := hp.lst
  have ni : ∀ y C d fs, H y = some (.ins C d fs) → y ≠ p := fun y C d fs e z => by
    rw [z, el] at e
    cases e
  have nt : ∀ y xs, H y = some (.tup xs) → y ≠ p := fun y xs e z => by
    rw [z, el] at e
    cases e
  exact ⟨dh, t, u, vs, b _ _ (ni _ _ _ _ h1) h1, ⟨dt, tt, b _ _ (ni _ _ _ _ h2) h2, b _ _ (nt _ _ h2') h2'⟩, b _ _ (nt _ _ h3) h3, h4.but b hp.notTup⟩
theorem make_words {H : Hp} {R : Addr → Hp → Prop} {tu tl : Addr} {n : Nat} {us : List (Option Nat)} {ls : List (List (Option Bool))} {as : List Addr} (hu : H tu = some (.tup (upvs us))) (hl : H tl = some (.tup (refs as))) (hr : Rows H as ls) (ok : WdOk n us ls) (q : ∀ m H', H m = none → Same H H' → WordsAt Z H' m n us ls → R m H') :
    ∀ x dx, H x = none → H dx = none → dx ≠ x → spWords Z (.ref x :: ([.int n, .ref tu, .ref tl] ++ [])) (upd (upd H dx (.own x)) x (.ins Z.a_Words dx [])) (fun v H2 => v = .non ∧ R x H2) (fun _ _ _ => False) := by
  intro m dm hm hdm ne
  have hm2 : upd H dm (.own m) m = none := by
    rw [upd_ne (Ne.symm ne)]
    exact hm
  have s0 : Same H (upd (upd H dm (.own m)) m (.ins Z.a_Words dm [])) := same_new (same_new (Same.refl H) hdm) hm2
  refine ⟨m, dm, tu, tl, n, us, ls, as, rfl, upd_same, s0 _ _ hu, s0 _ _ hl, hr.same s0, ok, fun H' b1 hw => ⟨rfl, ?_⟩⟩
  have s1 : Same H H' := fun b o e => b1 _ _ (ne_of_none e hm) (s0 _ _ e)
  exact q m H' hm s1 hw
theorem ok_law35 {f : Addr} {fd : FuncData} (F : Fun K "law" "law" s_law f fd) (B : Bl Z mg)
    {f__law_hand : Addr} {fd__law_hand : FuncData} (C__law_hand : Cal K mg "_law_hand" f__law_hand fd__law_hand ["_law_script"]) (G__law_hand : FnOk P w K mg base CX0 1 f__law_hand fd__law_hand ["_law_script"] (spPool K))
    {f__law_draw : Addr} {fd__law_draw : FuncData} (C__law_draw : Cal K mg "_law_draw" f__law_draw fd__law_draw ["_law_hand_here", "_law_many"]) (G__law_draw : FnOk P w K mg base CX0 1 f__law_draw fd__law_draw ["_law_hand_here", "_law_many"] spDraw)
    {f__law_tree : Addr} {fd__law_tree : FuncData} (C__law_tree : Cal K mg "_law_tree" f__law_tree fd__law_tree ["_law_hand_here", "_law_many"]) (G__law_tree : FnOk P w K mg base CX0 2 f__law_tree fd__law_tree ["_law_hand_here", "_law_many"] spHungW)
    {f__law_moves : Addr} {fd__law_moves : FuncData} (C__law_moves : Cal K mg "_law_moves" f__law_moves fd__law_moves ["_law_hand_here", "_law_hung", "_law_many"]) (G__law_moves : FnOk P w K mg base CX0 3 f__law_moves fd__law_moves ["_law_hand_here", "_law_hung", "_law_many"] spMovs)
    {f__law_had : Addr} {fd__law_had : FuncData} (C__law_had : Cal K mg "_law_had" f__law_had fd__law_had ["_law_hung", "_law_moves_here"]) (G__law_had : FnOk P w K mg base CX0 1 f__law_had fd__law_had ["_law_hung", "_law_moves_here"] spLHad)
    {f__law_words : Addr} {fd__law_words : FuncData} (C__law_words : Cal K mg "_law_words" f__law_words fd__law_words ["_law_hand_here", "_law_known", "_law_many", "_law_lost"]) (G__law_words : FnOk P w K mg base CX0 2 f__law_words fd__law_words ["_law_hand_here", "_law_known", "_law_many", "_law_lost"] spLWords)
    {f__law_stands : Addr} {fd__law_stands : FuncData} (C__law_stands : Cal K mg "_law_stands" f__law_stands fd__law_stands ["_law_due", "_law_many", "_law_ups", "_law_lists"]) (G__law_stands : FnOk P w K mg base CX0 2 f__law_stands fd__law_stands ["_law_due", "_law_many", "_law_ups", "_law_lists"] spLStand)
    {f__law_turned : Addr} {fd__law_turned : FuncData} (C__law_turned : Cal K mg "_law_turned" f__law_turned fd__law_turned ["_law_hand_here", "_law_many", "_law_ups", "_law_lists"]) (G__law_turned : FnOk P w K mg base CX0 2 f__law_turned fd__law_turned ["_law_hand_here", "_law_many", "_law_ups", "_law_lists"] spTurned)
    {f__law_all : Addr} {fd__law_all : FuncData} (C__law_all : Cal K mg "_law_all" f__law_all fd__law_all ["_law_due", "_law_many"]) (G__law_all : FnOk P w K mg base CX0 2 f__law_all fd__law_all ["_law_due", "_law_many"] spAllN)
    {f_had : Addr} {fd_had : FuncData} (C_had : Cal K mg "had" f_had fd_had ["history"]) (G_had : FnOk P w K mg base CX0 2 f_had fd_had ["history"] (spHad Z))
    {f_can_stand : Addr} {fd_can_stand : FuncData} (C_can_stand : Cal K mg "can_stand" f_can_stand fd_can_stand ["history", "words"]) (G_can_stand : FnOk P w K mg base CX0 3 f_can_stand fd_can_stand ["history", "words"] (spStand Z))
    {f_many_pictures : Addr} {fd_many_pictures : FuncData} (C_many_pictures : Cal K mg "many_pictures" f_many_pictures fd_many_pictures ["history"]) (G_many_pictures : FnOk P w K mg base CX0 3 f_many_pictures fd_many_pictures ["history"] (spMany Z))
    {f_Words___init__ : Addr} {fd_Words___init__ : FuncData} (C_Words___init__ : CalM K f_Words___init__ fd_Words___init__ ["self", "blocks", "ups", "lists"]) (G_Words___init__ : FnOk P w K mg base CX0 3 f_Words___init__ fd_Words___init__ ["self", "blocks", "ups", "lists"] (spWords Z)) (M_Words : Mk K Z.a_Words f_Words___init__)
    {f_History___init__ : Addr} {fd_History___init__ : FuncData} (C_History___init__ : CalM K f_History___init__ fd_History___init__ ["self", "tree", "moves"]) (G_History___init__ : FnOk P w K mg base (L2.CX P w) 7 f_History___init__ fd_History___init__ ["self", "tree", "moves"] (spHist Z)) (M_History : Mk K Z.a_History f_History___init__)
    {f_Tree___init__ : Addr} {fd_Tree___init__ : FuncData} (C_Tree___init__ : CalM K f_Tree___init__ fd_Tree___init__ ["self", "hung"]) (G_Tree___init__ : FnOk P w K mg base (L2.CX P w) 3 f_Tree___init__ fd_Tree___init__ ["self", "hung"] (spTree Z)) (M_Tree : Mk K Z.a_Tree f_Tree___init__) : FnOk P w K mg base CX0 10 f fd ["_law_script"] (spLaw K) := by
  refine F.ok sc_law (fun vs H Q E h => ?_) (fun cdv A outer s H vs Q E hr h => ?_)
  · obtain ⟨a, ns, rfl, _⟩ := h
    rfl
  · obtain ⟨a, ns, rfl, hS, hl, q⟩ := h
    refine ⟨_, (pss_cons (ps_set (i := 1) sc_law.nd rfl (Or.inl rfl) (pe_call G__law_hand (hr.mono (by first | decide | omega)) (by rfl) C__law_hand.g C__law_hand.k C__law_hand.b .nil pass0 (pa_cons (pv 0) pa_nil)))
 (pss_cons (ps_for PassesOwn.never rfl (pi_range1 rfl B.b_range (pa_cons pe_int pa_nil)) (pg_name (i := 2) sc_law.nd rfl (Or.inl rfl)) (pss_cons (ps_set (i := 3) sc_law.nd rfl (Or.inl rfl) (pe_op op_add pe_int (pe_call G__law_draw (hr.mono (by first | decide | omega)) (by rfl) C__law_draw.g C__law_draw.k C__law_draw.b .nil pass0 (pa_cons (pv 1) (pa_cons pe_int pa_nil)))))
 (pss_cons (ps_set (i := 4) sc_law.nd rfl (Or.inl rfl) (pe_call G__law_tree (hr.mono (by first | decide | omega)) (by rfl) C__law_tree.g C__law_tree.k C__law_tree.b .nil pass0 (pa_cons (pv 1) (pa_cons (pv 3) pa_nil))))
 (pss_cons (ps_asg (pe_call G__law_moves (hr.mono (by first | decide | omega)) (by rfl) C__law_moves.g C__law_moves.k C__law_moves.b .nil pass0 (pa_cons (pv 1) (pa_cons (pv 4) (pa_cons (pe_call G__law_draw (hr.mono (by first | decide | omega)) (by rfl) C__law_draw.g C__law_draw.k C__law_draw.b .nil pass0 (pa_cons (pv 1) (pa_cons pe_int pa_nil))) pa_nil)))) (pg_tup rfl (pgs_cons (pg_name (i := 5) sc_law.nd rfl (Or.inl rfl)) (pgs_cons (pg_name (i := 6) sc_law.nd rfl (Or.inl rfl)) pgs_nil))))
 (pss_cons (ps_set (i := 7) sc_law.nd rfl (Or.inl rfl) (pe_make M_History G_History___init__ (hr.mono (by first | decide | omega)) (by rfl) B.k_History C_History___init__.b .nil passE (pa_cons (pe_make M_Tree G_Tree___init__ (hr.mono (by first | decide | omega)) (by rfl) B.k_Tree C_Tree___init__.b .nil passE (pa_cons (pv 4) pa_nil)) (pa_cons (pv 5) pa_nil))))
 (pss_cons (ps_set (i := 8) sc_law.nd rfl (Or.inr rfl) (pe_call G__law_had (hr.mono (by first | decide | omega)) (by rfl) C__law_had.g C__law_had.k C__law_had.b .nil pass0 (pa_cons (pv 4) (pa_cons (pv 5) pa_nil))))
 (pss_cons (ps_if (PW.pt (pw_or (pt_cmpR (op_neDD (K := K) rfl (units66 hr)) (pe_call G_had (hr.mono (by first | decide | omega)) (by rfl) C_had.g C_had.k C_had.b .nil pass0 (pa_cons (pv 7) pa_nil)) (pv 8) (nomark _)) (pw_or1 (pt_not (pt_val (pe_callB (cr_allK (K := K) rfl rfl) (by rfl) B.b_all (by decide +kernel) (pa_cons (pe_lc (own := [("_law_block", 14)]) rfl sc_law.nd (pi_keysF (pe_call G_had (hr.mono (by first | decide | omega)) (by rfl) C_had.g C_had.k C_had.b .nil pass0 (pa_cons (pv 7) pa_nil))) (blkOk_by (N := ["_law_script", "_law_hand_here", "_law_turn", "_law_many", "_law_hung", "_law_moves_here", "_law_last", "_law_made", "_law_due", "_law_number", "_law_ups", "_law_lists", "_law_again", "_law_told", "_law_block"]) (sc := defScope s_law) (by decide +kernel)) (fun _ _ _ _ _ => (pg_name (i := 14) sc_law.nd rfl (Or.inl rfl))) (fun _ _ _ _ _ => pts_nil) (fun _ _ _ _ _ => (pe_callB (call_isiK' (K := K) rfl) (by rfl) B.b_isinstance (by decide +kernel) (pa_cons (pe_dget (units1 hr) (pv 8) (pv 14) (fun _ _ => rfl)) (pa_cons (pe_bltn (v := .ty "tuple") (by rfl) B.b_tuple (by decide +kernel) rfl) pa_nil))))) pa_nil))))))) (pss_one (ps_ret pe_bl)) pss_nil)
 (pss_cons (ps_expr (pe_bm0K (K := K) rfl PySem.F.plainAttrs_dict PySem.F.slot_dict_clear PySem.F.type_dict_clear mtd_clear (pe_call G_had (hr.mono (by first | decide | omega)) (by rfl) C_had.g C_had.k C_had.b .nil pass0 (pa_cons (pv 7) pa_nil))))
 (pss_cons (ps_set (i := 9) sc_law.nd rfl (Or.inl rfl) (pe_call G_many_pictures (hr.mono (by first | decide | omega)) (by rfl) C_many_pictures.g C_many_pictures.k C_many_pictures.b .nil pass0 (pa_cons (pv 7) pa_nil)))
 (pss_cons (ps_if (PW.pt (pw_or (pt_cmpR (op_neDD (K := K) rfl (units66 hr)) (pe_call G_had (hr.mono (by first | decide | omega)) (by rfl) C_had.g C_had.k C_had.b .nil pass0 (pa_cons (pv 7) pa_nil)) (pv 8) (nomark _)) (pw_or (pt_cmpR op_ne (pv 9) (pe_call G__law_all (hr.mono (by first | decide | omega)) (by rfl) C__law_all.g C__law_all.k C__law_all.b .nil pass0 (pa_cons (pv 8) (pa_cons (pv 3) pa_nil))) (nomark _)) (pw_or1 (pt_val (pe_callB (call_isiK' (K := K) rfl) (by rfl) B.b_isinstance (by decide +kernel) (pa_cons (pv 9) (pa_cons (pe_bltn (v := .ty "bool") (by rfl) B.b_bool (by decide +kernel) rfl) pa_nil)))))))) (pss_one (ps_ret pe_bl)) pss_nil)
 (pss_cons (ps_asg (pe_call G__law_words (hr.mono (by first | decide | omega)) (by rfl) C__law_words.g C__law_words.k C__law_words.b .nil pass0 (pa_cons (pv 1) (pa_cons (pv 8) (pa_cons (pv 3) (pa_cons (pe_cmpR op_eq (pe_call G__law_draw (hr.mono (by first | decide | omega)) (by rfl) C__law_draw.g C__law_draw.k C__law_draw.b .nil pass0 (pa_cons (pv 1) (pa_cons pe_int pa_nil))) pe_int (nomark _)) pa_nil))))) (pg_tup rfl (pgs_cons (pg_name (i := 10) sc_law.nd rfl (Or.inl rfl)) (pgs_cons (pg_name (i := 11) sc_law.nd rfl (Or.inl rfl)) pgs_nil))))
 (pss_cons (ps_if (pt_cmpR op_notBk (pe_call G_can_stand (hr.mono (by first | decide | omega)) (by rfl) C_can_stand.g C_can_stand.k C_can_stand.b .nil pass0 (pa_cons (pv 7) (pa_cons (pe_make M_Words G_Words___init__ (hr.mono (by first | decide | omega)) (by rfl) B.k_Words C_Words___init__.b .nil pass0 (pa_cons (pv 3) (pa_cons (pv 10) (pa_cons (pv 11) pa_nil)))) pa_nil))) pe_bl (nomark _)) (pss_one (ps_ret pe_bl)) pss_nil)
 (pss_one (ps_for PassesOwn.never rfl (pi_range1 rfl B.b_range (pa_cons pe_int pa_nil)) (pg_name (i := 12) sc_law.nd rfl (Or.inl rfl)) (pss_cons (ps_asg (pe_call G__law_turned (hr.mono (by first | decide | omega)) (by rfl) C__law_turned.g C__law_turned.k C__law_turned.b .nil pass0 (pa_cons (pv 1) (pa_cons (pv 3) (pa_cons (pv 10) (pa_cons (pv 11) pa_nil))))) (pg_tup rfl (pgs_cons (pg_name (i := 10) sc_law.nd rfl (Or.inl rfl)) (pgs_cons (pg_name (i := 11) sc_law.nd rfl (Or.inl rfl)) pgs_nil))))
 (pss_cons (ps_set (i := 13) sc_law.nd rfl (Or.inl rfl) (pe_call G_can_stand (hr.mono (by first | decide | omega)) (by rfl) C_can_stand.g C_can_stand.k C_can_stand.b .nil pass0 (pa_cons (pv 7) (pa_cons (pe_make M_Words G_Words___init__ (hr.mono (by first | decide | omega)) (by rfl) B.k_Words C_Words___init__.b .nil pass0 (pa_cons (pv 3) (pa_cons (pv 10) (pa_cons (pv 11) pa_nil)))) pa_nil))))
 (pss_one (ps_if (PW.pt (pw_or (pt_not (pt_val (pe_callB (call_isiK' (K := K) rfl) (by rfl) B.b_isinstance (by decide +kernel) (pa_cons (pv 13) (pa_cons (pe_bltn (v := .ty "bool") (by rfl) B.b_bool (by decide +kernel) rfl) pa_nil))))) (pw_or1 (pt_cmpR op_ne (pv 13) (pe_call G__law_stands (hr.mono (by first | decide | omega)) (by rfl) C__law_stands.g C__law_stands.k C__law_stands.b .nil pass0 (pa_cons (pv 8) (pa_cons (pv 3) (pa_cons (pv 10) (pa_cons (pv 11) pa_nil))))) (nomark _))))) (pss_one (ps_ret pe_bl)) pss_nil))))))))))))))))))
 (pss_one (ps_ret pe_bl)))), ?_⟩
    walk_at "h0"
    refine ⟨a, ns, rfl, hS, hl, fun p H1 s1 np p1 => ?_⟩
    walk_at "hs"
    refine ⟨4, rfl, by decide, by decide, ?_⟩
    refine lp_range (lo := 0) (n := Int.toNat 4) (fun i σ' H' => (∃ x2 x3 x4 x5 x6 x7 x8 x9 x10 x11 x12 x13, σ' = [some (.ref a), some (.ref p), x2, x3, x4, x5, x6, x7, x8, x9, x10, x11, x12, x13, none]) ∧ PoolAt H' p (fun _ => False))
      ⟨⟨_, _, _, _, _, _, _, _, _, _, _, _, rfl⟩, p1⟩ ?_ ?_
    · clear p1 np s1 hS hl
      rintro i σ' H2 hi ⟨⟨x2, x3, x4, x5, x6, x7, x8, x9, x10, x11, x12, x13, rfl⟩, p2⟩
      walk_at "hs"
      refine ⟨p, 6, _, rfl, p2, by decide, by decide, fun d H3 d0 d1 b3 p3 => ?_⟩
      obtain ⟨n, hn⟩ : ∃ n : Nat, 1 + d = (n : Int) := ⟨(1 + d).toNat, by omega⟩
      walk_at "hs"
      rw [hn]
      refine ⟨p, n, _, rfl, p3, by omega, by omega, fun D hs H4 it hln b4 p4 eD => ?_⟩
      walk_at "hs"
      refine ⟨p, 9, _, rfl, p4, by decide, by decide, fun k H5 k0 k1 b5 p5 => ?_⟩
      have eD5 := b5 _ _ (fun z => by obtain ⟨xs, e⟩ := p4.lst; rw [z, e] at eD; cases eD) eD
      walk_at "hs"
      refine ⟨p, D, hs, k, _, rfl, p5, eD5, it, by omega, by omega, fun m u g us ms H6 lm ok b6 p6 em eu pu eg => ?_⟩
      have eD6 := b6 _ _ (fun z => p5.notTup _ (z ▸ eD5)) eD5
      have sm : SqT K H6 m [.ref u, .ref g] := .of em
      have l100 : ms.length ≤ 100 := by omega
      have l50 : ms.length ≤ 50 := by omega
      have h40 : hs.length ≤ 40 := by omega
      have hg := hgOk_of it
      have mo := mvOk_of ok
      have ko := hadLs_ok hg fun m hm => ⟨(mo m hm).1, (mo m hm).2.2.1, (mo m hm).2.2.2⟩
      have hk : ∀ k ∈ hadLs hs ms, k.length ≤ 100 := fun k hk => by
        obtain ⟨i, e⟩ := List.getElem?_of_mem hk
        have := hadLs_small h40 e
        omega
      subst hln
      clear b3 p3 b4 p4 eD b5 p5 eD5 b6 p2 em
      walk_at "hs"
      refine x_make ?_
      walk_at "hs"
      refine x_make ?_
      walk_at "hs"
      intro t1 dm hm hdm hne
      refine spTree_of it eD6 hm hdm hne fun H7 s7 tr1 => ?_
      walk_at "hs"
      refine make_hist tr1 it (s7 _ _ eu) (pu.same s7) ok l100 fun h1 H8 nh1 s8 hi1 => ?_
      have s68 := s7.trans s8
      have e_D := s68 _ _ eD6
      have e_u := s68 _ _ eu
      have p_u := pu.same s68
      have p8 := p6.same s68
      clear s7 s8 s68 eD6 eu pu eg p6 sm tr1 hm hdm hne nh1
      walk_at "hs"
      refine ⟨D, u, hs, us, ms, rfl, e_D, e_u, p_u, h40, l50, hg, mo, fun due H9 s9 ndue kd => ?_⟩
      have hi9 := hi1.same s9
      have p9 := p8.same s9
      clear hi1 p8 e_D e_u p_u s9
      walk_at "hs"
      refine ⟨h1, hs, ms, rfl, hi9, h40, l50, hg, mo, fun D2 H10 s10 nD2 kn => ?_⟩
      walk_at "hs"
      refine ⟨dd_known kn (kd.same s10), ?_⟩
      walk_at "hs"
      refine ⟨h1, hs, ms, rfl, hi9.same s10, h40, l50, hg, mo, fun D3 H11 s11 nD3 kn3 => ?_⟩
      obtain ⟨bs, eD3, ts⟩ := kn3
      refine ⟨D3, _, rfl, eD3, fun o L nL => ?_⟩
      have sF : Same H10 (upd H11 D3 (.frz o (.dK (kdl 1 (refs bs))))) := same_mut s11 nD3
      have eF : upd H11 D3 (.frz o (.dK (kdl 1 (refs bs)))) D3 = some (.frz o (.dK (kdl 1 (refs bs)))) := upd_same
      generalize upd H11 D3 (.frz o (.dK (kdl 1 (refs bs)))) = HF at sF eF nL ⊢
      have bl : bs.length = (hadLs hs ms).length := ts.1
      have hl := hadLs_len hs ms
      have sF9 := s10.trans sF
      clear sF s11 s10 eD3 ts kn nD2 nD3
      refine lc_it (walk_keys (d := D3) (o := o) (kvs := kdl 1 (refs bs))) (fun i G => Same HF G ∧ G L = some (.lst (bls (List.replicate i true))))
        ⟨same_new (Same.refl _) nL, upd_same⟩ (fun i G _ h => h.1 _ _ eF) ?_ ?_
      · rintro j x5 G G' hj ⟨s4, eL⟩ ⟨rfl, k, v, ek, rfl⟩
        obtain ⟨rfl, ev⟩ := kdl_at ek
        rw [kdl_len, refs_length, bl] at hj
        obtain ⟨cs, b, eC, gb, eb⟩ := (kd.same (sF9.trans s4)).get hj
        walk_at "hs"
        refine ⟨rfl, ?_⟩
        walk_at "hs"
        refine ⟨due, _, rfl, dgetN (.inl eC) gb rfl, ?_⟩
        walk_at "hs"
        refine ⟨_, eL, szLt (by rw [bls_len, List.length_replicate]; omega), same_mut s4 nL, ?_⟩
        rw [upd_same, List.replicate_succ']
        unfold bls
        rw [List.map_append]
        rfl
      rintro G ⟨s4, eL⟩
      walk_at "hs"
      refine ⟨L, List.replicate _ true, rfl, .of eL, ?_⟩
      rw [show (List.replicate (kdl 1 (refs bs)).length true).all id = true from List.all_eq_true.mpr fun b hb => (List.mem_replicate.mp hb).2]
      have sG := sF9.trans s4
      have hiG := hi9.same sG
      have kdG := kd.same sG
      have pG := p9.same sG
      clear hi9 kd p9 sG sF9 s4 eL eF nL bl bs
      walk_at "hs"
      refine ⟨h1, hs, ms, rfl, hiG, h40, l50, hg, mo, fun D4 H13 s13 nD4 kn4 => ?_⟩
      obtain ⟨c4, e4, _⟩ := kn4
      refine ⟨.inr (.inr (.inl ⟨rfl, .inl ⟨_, e4⟩⟩)), D4, _, rfl, rfl, e4, ?_⟩
      have s14 : Same G (upd H13 D4 (.dK [])) := same_mut s13 nD4
      generalize upd H13 D4 (.dK []) = H14 at s14 ⊢
      walk_at "hs"
      refine ⟨h1, hs, ms, rfl, hiG.same s14, h40, l50, hg, mo, fun H15 s15 => ?_⟩
      have s1415 := s14.trans s15
      walk_at "hs"
      refine ⟨h1, hs, ms, rfl, hiG.same s1415, h40, l50, hg, mo, fun D5 H16 s16 nD5 kn5 => ?_⟩
      have s1416 := s1415.trans s16
      walk_at "hs"
      refine ⟨dd_known kn5 (kdG.same s1416), ?_⟩
      walk_at "hs"
      refine ⟨due, hs.length, _, rfl, kdG.same s1416, hl, by omega, h40, hk, fun H17 s17 => ?_⟩
      rw [allN_many ko]
      walk_at "hs"
      refine x_isdF (fun z => z rfl) ?_
      have s1417 := s1416.trans s17
      have hi17 := hiG.same s1417
      have kd17 := kdG.same s1417
      have p17 := pG.same s1417
      clear hiG kdG pG s14 s15 s16 s17 s1415 s1416 s1417 kn5 e4 s13 nD4 nD5
      walk_at "hs"
      refine ⟨p, 2, _, rfl, p17, by decide, by decide, fun d6 H18 c0 c1 b18 p18 => ?_⟩
      have hi18 := hi17.pool p17 b18
      have kd18 := kd17.pool p17 b18
      walk_at "hs"
      refine ⟨p, due, hs.length, decide (d6 = 0), _, _, rfl, p18, kd18, ko, by omega, h40, hk, fun T tu tl vs2 ls rs H19 b19 p19 eT etu etl hrw wd sa => ?_⟩
      have hi19 := hi18.pool p18 b19
      have kd19 := kd18.pool p18 b19
      have sT : SqT K H19 T [.ref tu, .ref tl] := .of eT
      clear hi17 kd17 p17 b18 hi18 kd18 p18 b19
      walk_at "hs"
      refine x_make ?_
      walk_at "hs"
      refine make_words etu etl hrw wd fun w1 H20 nw s20 wa => ?_
      walk_at "hs"
      refine ⟨h1, w1, hs, ms, vs2, ls, rfl, hi19.same s20, h40, l50, hg, mo, wa, wd, fun H21 s21 => ?_⟩
      rw [sa]
      have s1921 := s20.trans s21
      have hi21 := hi19.same s1921
      have kd21 := kd19.same s1921
      have p21 := p19.same s1921
      have etu21 := s1921 _ _ etu
      have etl21 := s1921 _ _ etl
      have hrw21 := hrw.same s1921
      clear hi19 kd19 p19 eT etu etl hrw sT s20 s21 s1921 wa nw
      walk_at "hs"
      refine ⟨some true, true, rfl, rfl, ?_⟩
      walk_at "hs"
      refine ⟨2, rfl, by decide, by decide, ?_⟩
      refine lp_range (lo := 0) (n := Int.toNat 2) (fun j σ' G => (∃ tu tl x12 x13, σ' = [some (.ref a), some (.ref p), some (.int (0 + (i : Nat))), some (.int hs.length), some (.ref D), some (.ref u), some (.ref g), some (.ref h1), some (.ref due), some (.int (manyN (hadLs hs ms) : Nat)), some (.ref tu), some (.ref tl), x12, x13, none] ∧ ∃ us ls rs, G tu = some (.tup (upvs us)) ∧ G tl = some (.tup (refs rs)) ∧ Rows G rs ls ∧ WdOk hs.length us ls) ∧ PoolAt G p (fun _ => False) ∧ HistAt Z G h1 hs ms ∧ KnownAt G due (hadLs hs ms))
        ⟨⟨tu, tl, _, _, rfl, vs2, ls, rs, etu21, etl21, hrw21, wd⟩, p21, hi21, kd21⟩ ?_ ?_
      · clear etu21 etl21 hrw21 wd p21 hi21 kd21 sa
        rintro j σ' G hj ⟨⟨tu, tl, x12, x13, rfl, us, ls, rs, etu, etl, hrw, wd⟩, p1, hi1, kd1⟩
        walk_at "hs"
        refine ⟨p, tu, tl, hs.length, us, ls, rs, _, rfl, p1, etu, etl, hrw, wd, fun T tu2 tl2 us2 ls2 rs2 G2 b2 p2 eT eu2 el2 hr2 wd2 => ?_⟩
        have hi2 := hi1.pool p1 b2
        have kd2 := kd1.pool p1 b2
        have sT : SqT K G2 T [.ref tu2, .ref tl2] := .of eT
        clear etu etl hrw wd hi1 kd1 p1 b2
        walk_at "hs"
        refine x_make ?_
        walk_at "hs"
        refine make_words eu2 el2 hr2 wd2 fun w1 G3 nw s3 wa => ?_
        walk_at "hs"
        refine ⟨h1, w1, hs, ms, us2, ls2, rfl, hi2.same s3, h40, l50, hg, mo, wa, wd2, fun G4 s4 => ?_⟩
        have s24 := s3.trans s4
        walk_at "hs"
        refine ⟨due, tu2, tl2, hs.length, _, us2, ls2, rs2, rfl, kd2.same s24, hl, hk, wd2, s24 _ _ eu2, s24 _ _ el2, hr2.same s24, fun G5 s5 => ?_⟩
        have s25 := s24.trans s5
        walk_at "hs"
        refine x_isdF (fun z => z rfl) ?_
        walk_at "hs"
        exact ⟨⟨tu2, tl2, _, _, rfl, us2, ls2, rs2, s25 _ _ eu2, s25 _ _ el2, hr2.same s25, wd2⟩, p2.same s25, hi2.same s25, kd2.same s25⟩
      · rintro σ' G ⟨⟨tu, tl, x12, x13, rfl, us, ls, rs, etu, etl, hrw, wd⟩, p1, hi1, kd1⟩
        exact ⟨⟨_, _, _, _, _, _, _, _, _, _, _, _, rfl⟩, p1⟩
    · rintro σ' H' ⟨⟨x2, x3, x4, x5, x6, x7, x8, x9, x10, x11, x12, x13, rfl⟩, p2⟩
      walk_at "hs"
      exact q _
end
set_option maxRecDepth 100000
set_option maxHeartbeats 4000000
open PySem PySem.Spec L2 PyProof.Rows
theorem kit_ref {K : PySem.W.Frag} {t : Value} {C : Addr} {b : Bool} (hn : (t == Value.ref C) = false) (h : PySem.W.isClsIn K C = true) (ht : PySem.W.typeIn K (.ref C) = some (.type "type")) (hs : PySem.W.subIn K t (.ref C) = some b) : PySem.W.kitOne K t (.ref C) = some b := by
  have e2 : ((PySem.W.clsIn K C).isSome && PySem.W.typeIn K (.ref C) == some (.type "type")) = true := by
    have h2' : (PySem.W.clsIn K C).isSome = true := h
    rw [h2', ht] <;> rfl
  unfold PySem.W.kitOne
  rw [hn, if_neg Bool.false_ne_true]
  show (if ((PySem.W.clsIn K C).isSome && PySem.W.typeIn K (.ref C) == some (.type "type")) = true then PySem.W.subIn K t (.ref C) else none) = some b
  rw [if_pos e2]
  exact hs
theorem kit_typ {K : PySem.W.Frag} {C : Addr} {T : String} {b : Bool} (hm : PySem.W.kitMeta T = true) (h : PySem.W.subIn K (.ref C) (.type T) = some b) : PySem.W.kitOne K (.ref C) (.type T) = some b := by
  unfold PySem.W.kitOne
  rw [if_neg (by simp)]
  show (if PySem.W.kitMeta T = true then PySem.W.subIn K (.ref C) (.type T) else none) = some b
  rw [if_pos hm]
  exact h
theorem sub_tuple (K : PySem.W.Frag) (C : Addr) : PySem.W.subIn K (.type "tuple") (.ref C) = some false := by
  have e2 : PySem.fastBuiltinMro "tuple" = some [.type "tuple", .type "object"] := by decide +kernel
  show (PySem.fastBuiltinMro "tuple").map (·.contains (Value.ref C)) = some false
  rw [e2]
  rfl
theorem sub_int (K : PySem.W.Frag) (C : Addr) : PySem.W.subIn K (.type "int") (.ref C) = some false := by
  have e2 : PySem.fastBuiltinMro "int" = some [.type "int", .type "object"] := by decide +kernel
  show (PySem.fastBuiltinMro "int").map (·.contains (Value.ref C)) = some false
  rw [e2]
  rfl
theorem sub_bt (K : PySem.W.Frag) (C : Addr) {T : String} {l : List Value} (e2 : PySem.fastBuiltinMro T = some l) (h : l.contains (Value.ref C) = false) : PySem.W.subIn K (.type T) (.ref C) = some false := by
  show (PySem.fastBuiltinMro T).map (·.contains (Value.ref C)) = some false
  rw [e2, Option.map_some, h]
theorem exm3 {K : PySem.W.Frag} {c a b d : Value} {x y z : Bool} (h : PySem.W.exmOne K c a = some x) (h2 : PySem.W.exmOne K c b = some y) (h3 : PySem.W.exmOne K c d = some z) (e : (x || (y || (z || false))) = true) : PySem.W.exmAny K c [a, b, d] = some true := by
  simp only [PySem.W.exmAny, h, h2, h3, e]
theorem all_mk {P : Program} {w : World} {K : PySem.W.Frag} {h : Heap} {mg : Str → Option Value} {fa : Addr} (X : K.In h) (G : h.Ns mainGlobals mg) (hfa : mg "law" = some (.ref fa))
    {c_VoteError : Addr}
    {c_BadTree : Addr}
    {c_NoBlock : Addr}
    {c_NoPlace : Addr}
    {c_Beneath : Addr}
    {c_OtherBlocks : Addr}
    {c_BadWords : Addr}
    {c_BadHistory : Addr}
    {c_Tree : Addr}
    {c_Words : Addr}
    {c_History : Addr}
    {t_MOST_BLOCKS : PySem.Tok}
    {t_MOST_MOVES : PySem.Tok}
    {f_BadTree___init__ : Addr} {od_BadTree___init__ an_BadTree___init__ : Option Addr} {sl_BadTree___init__ : Array (Option Value)} {oc_BadTree___init__ kV_BadTree___init__ dc_BadTree___init__ pm_BadTree___init__ cd_BadTree___init__ ct_BadTree___init__ : Value}
    {f_BadHistory___init__ : Addr} {od_BadHistory___init__ an_BadHistory___init__ : Option Addr} {sl_BadHistory___init__ : Array (Option Value)} {oc_BadHistory___init__ kV_BadHistory___init__ dc_BadHistory___init__ pm_BadHistory___init__ cd_BadHistory___init__ ct_BadHistory___init__ : Value}
    {f_is_within : Addr} {od_is_within an_is_within : Option Addr} {sl_is_within : Array (Option Value)} {oc_is_within kV_is_within dc_is_within pm_is_within cd_is_within ct_is_within : Value}
    {f_is_pair : Addr} {od_is_pair an_is_pair : Option Addr} {sl_is_pair : Array (Option Value)} {oc_is_pair kV_is_pair dc_is_pair pm_is_pair cd_is_pair ct_is_pair : Value}
    {f_Tree___init__ : Addr} {od_Tree___init__ an_Tree___init__ : Option Addr} {sl_Tree___init__ : Array (Option Value)} {oc_Tree___init__ kV_Tree___init__ dc_Tree___init__ pm_Tree___init__ cd_Tree___init__ ct_Tree___init__ : Value}
    {f__comes_to_head : Addr} {od__comes_to_head an__comes_to_head : Option Addr} {sl__comes_to_head : Array (Option Value)} {oc__comes_to_head kV__comes_to_head dc__comes_to_head pm__comes_to_head cd__comes_to_head ct__comes_to_head : Value}
    {f_is_block : Addr} {od_is_block an_is_block : Option Addr} {sl_is_block : Array (Option Value)} {oc_is_block kV_is_block dc_is_block pm_is_block cd_is_block ct_is_block : Value}
    {f_is_place : Addr} {od_is_place an_is_place : Option Addr} {sl_is_place : Array (Option Value)} {oc_is_place kV_is_place dc_is_place pm_is_place cd_is_place ct_is_place : Value}
    {f_place_of : Addr} {od_place_of an_place_of : Option Addr} {sl_place_of : Array (Option Value)} {oc_place_of kV_place_of dc_place_of pm_place_of cd_place_of ct_place_of : Value}
    {f_parents : Addr} {od_parents an_parents : Option Addr} {sl_parents : Array (Option Value)} {oc_parents kV_parents dc_parents pm_parents cd_parents ct_parents : Value}
    {f_beneath : Addr} {od_beneath an_beneath : Option Addr} {sl_beneath : Array (Option Value)} {oc_beneath kV_beneath dc_beneath pm_beneath cd_beneath ct_beneath : Value}
    {f_moved : Addr} {od_moved an_moved : Option Addr} {sl_moved : Array (Option Value)} {oc_moved kV_moved dc_moved pm_moved cd_moved ct_moved : Value}
    {f_Words___init__ : Addr} {od_Words___init__ an_Words___init__ : Option Addr} {sl_Words___init__ : Array (Option Value)} {oc_Words___init__ kV_Words___init__ dc_Words___init__ pm_Words___init__ cd_Words___init__ ct_Words___init__ : Value}
    {f__is_tuple_of : Addr} {od__is_tuple_of an__is_tuple_of : Option Addr} {sl__is_tuple_of : Array (Option Value)} {oc__is_tuple_of kV__is_tuple_of dc__is_tuple_of pm__is_tuple_of cd__is_tuple_of ct__is_tuple_of : Value}
    {f__is_up : Addr} {od__is_up an__is_up : Option Addr} {sl__is_up : Array (Option Value)} {oc__is_up kV__is_up dc__is_up pm__is_up cd__is_up ct__is_up : Value}
    {f__is_listing : Addr} {od__is_listing an__is_listing : Option Addr} {sl__is_listing : Array (Option Value)} {oc__is_listing kV__is_listing dc__is_listing pm__is_listing cd__is_listing ct__is_listing : Value}
    {f_History___init__ : Addr} {od_History___init__ an_History___init__ : Option Addr} {sl_History___init__ : Array (Option Value)} {oc_History___init__ kV_History___init__ dc_History___init__ pm_History___init__ cd_History___init__ ct_History___init__ : Value}
    {f_had : Addr} {od_had an_had : Option Addr} {sl_had : Array (Option Value)} {oc_had kV_had dc_had pm_had cd_had ct_had : Value}
    {f__ties_of : Addr} {od__ties_of an__ties_of : Option Addr} {sl__ties_of : Array (Option Value)} {oc__ties_of kV__ties_of dc__ties_of pm__ties_of cd__ties_of ct__ties_of : Value}
    {f_can_stand : Addr} {od_can_stand an_can_stand : Option Addr} {sl_can_stand : Array (Option Value)} {oc_can_stand kV_can_stand dc_can_stand pm_can_stand cd_can_stand ct_can_stand : Value}
    {f__can_be : Addr} {od__can_be an__can_be : Option Addr} {sl__can_be : Array (Option Value)} {oc__can_be kV__can_be dc__can_be pm__can_be cd__can_be ct__can_be : Value}
    {f_many_pictures : Addr} {od_many_pictures an_many_pictures : Option Addr} {sl_many_pictures : Array (Option Value)} {oc_many_pictures kV_many_pictures dc_many_pictures pm_many_pictures cd_many_pictures ct_many_pictures : Value}
    {f__law_hand : Addr} {od__law_hand an__law_hand : Option Addr} {sl__law_hand : Array (Option Value)} {oc__law_hand kV__law_hand dc__law_hand pm__law_hand cd__law_hand ct__law_hand : Value}
    {f__law_draw : Addr} {od__law_draw an__law_draw : Option Addr} {sl__law_draw : Array (Option Value)} {oc__law_draw kV__law_draw dc__law_draw pm__law_draw cd__law_draw ct__law_draw : Value}
    {f__law_tree : Addr} {od__law_tree an__law_tree : Option Addr} {sl__law_tree : Array (Option Value)} {oc__law_tree kV__law_tree dc__law_tree pm__law_tree cd__law_tree ct__law_tree : Value}
    {f__law_row : Addr} {od__law_row an__law_row : Option Addr} {sl__law_row : Array (Option Value)} {oc__law_row kV__law_row dc__law_row pm__law_row cd__law_row ct__law_row : Value}
    {f__law_beneath : Addr} {od__law_beneath an__law_beneath : Option Addr} {sl__law_beneath : Array (Option Value)} {oc__law_beneath kV__law_beneath dc__law_beneath pm__law_beneath cd__law_beneath ct__law_beneath : Value}
    {f__law_put : Addr} {od__law_put an__law_put : Option Addr} {sl__law_put : Array (Option Value)} {oc__law_put kV__law_put dc__law_put pm__law_put cd__law_put ct__law_put : Value}
    {f__law_moves : Addr} {od__law_moves an__law_moves : Option Addr} {sl__law_moves : Array (Option Value)} {oc__law_moves kV__law_moves dc__law_moves pm__law_moves cd__law_moves ct__law_moves : Value}
    {f__law_had : Addr} {od__law_had an__law_had : Option Addr} {sl__law_had : Array (Option Value)} {oc__law_had kV__law_had dc__law_had pm__law_had cd__law_had ct__law_had : Value}
    {f__law_worths : Addr} {od__law_worths an__law_worths : Option Addr} {sl__law_worths : Array (Option Value)} {oc__law_worths kV__law_worths dc__law_worths pm__law_worths cd__law_worths ct__law_worths : Value}
    {f__law_words : Addr} {od__law_words an__law_words : Option Addr} {sl__law_words : Array (Option Value)} {oc__law_words kV__law_words dc__law_words pm__law_words cd__law_words ct__law_words : Value}
    {f__law_stands : Addr} {od__law_stands an__law_stands : Option Addr} {sl__law_stands : Array (Option Value)} {oc__law_stands kV__law_stands dc__law_stands pm__law_stands cd__law_stands ct__law_stands : Value}
    {f__law_turned : Addr} {od__law_turned an__law_turned : Option Addr} {sl__law_turned : Array (Option Value)} {oc__law_turned kV__law_turned dc__law_turned pm__law_turned cd__law_turned ct__law_turned : Value}
    {f__law_all : Addr} {od__law_all an__law_all : Option Addr} {sl__law_all : Array (Option Value)} {oc__law_all kV__law_all dc__law_all pm__law_all cd__law_all ct__law_all : Value}
    {f_law : Addr} {od_law an_law : Option Addr} {sl_law : Array (Option Value)} {oc_law kV_law dc_law pm_law cd_law ct_law : Value}
    {nmBadTree qBadTree : Str} {NBadTree : Addr} {bsBadTree bmBadTree : List Value} {snBadTree : List Str} {subBadTree : List Value} {abBadTree : Bool} {colBadTree : Option Bool} {ddBadTree : Option Addr} {m0BadTree m1BadTree m2BadTree m3BadTree m5BadTree : Option Value}
    {nmBadHistory qBadHistory : Str} {NBadHistory : Addr} {bsBadHistory bmBadHistory : List Value} {snBadHistory : List Str} {subBadHistory : List Value} {abBadHistory : Bool} {colBadHistory : Option Bool} {ddBadHistory : Option Addr} {m0BadHistory m1BadHistory m2BadHistory m3BadHistory m5BadHistory : Option Value}
    {nmUNoBlock qUNoBlock : Str} {NUNoBlock : Addr} {bsUNoBlock bmUNoBlock : List Value} {snUNoBlock : List Str} {subUNoBlock : List Value} {abUNoBlock : Bool} {colUNoBlock : Option Bool} {ddUNoBlock : Option Addr} {u0NoBlock u1NoBlock u2NoBlock u3NoBlock u5NoBlock : Option Value} {f_UNoBlock : Addr} {ocUNoBlock : Value} {odUNoBlock anUNoBlock : Option Addr} {kVUNoBlock docUNoBlock pmUNoBlock ctUNoBlock : Value} {cdUNoBlock ccUNoBlock : Addr} {slUNoBlock : Array (Option Value)} {qqUNoBlock : Str} {eNoBlock p0NoBlock p1NoBlock p2NoBlock p3NoBlock p4NoBlock : Pos} {clUNoBlock : Value} {cldUNoBlock : Option Addr} {cslUNoBlock : Array (Option Value)} {cclUNoBlock : Value} {cddUNoBlock : Option Addr} {vsUNoBlock : Array Value} {ccsUNoBlock : Array (Option Value)} {fileUNoBlock : Str} {tfUNoBlock : Tok}
    {nmUNoPlace qUNoPlace : Str} {NUNoPlace : Addr} {bsUNoPlace bmUNoPlace : List Value} {snUNoPlace : List Str} {subUNoPlace : List Value} {abUNoPlace : Bool} {colUNoPlace : Option Bool} {ddUNoPlace : Option Addr} {u0NoPlace u1NoPlace u2NoPlace u3NoPlace u5NoPlace : Option Value} {f_UNoPlace : Addr} {ocUNoPlace : Value} {odUNoPlace anUNoPlace : Option Addr} {kVUNoPlace docUNoPlace pmUNoPlace ctUNoPlace : Value} {cdUNoPlace ccUNoPlace : Addr} {slUNoPlace : Array (Option Value)} {qqUNoPlace : Str} {eNoPlace p0NoPlace p1NoPlace p2NoPlace p3NoPlace p4NoPlace : Pos} {clUNoPlace : Value} {cldUNoPlace : Option Addr} {cslUNoPlace : Array (Option Value)} {cclUNoPlace : Value} {cddUNoPlace : Option Addr} {vsUNoPlace : Array Value} {ccsUNoPlace : Array (Option Value)} {fileUNoPlace : Str} {tfUNoPlace : Tok}
    {nmUBeneath qUBeneath : Str} {NUBeneath : Addr} {bsUBeneath bmUBeneath : List Value} {snUBeneath : List Str} {subUBeneath : List Value} {abUBeneath : Bool} {colUBeneath : Option Bool} {ddUBeneath : Option Addr} {u0Beneath u1Beneath u2Beneath u3Beneath u5Beneath : Option Value} {f_UBeneath : Addr} {ocUBeneath : Value} {odUBeneath anUBeneath : Option Addr} {kVUBeneath docUBeneath pmUBeneath ctUBeneath : Value} {cdUBeneath ccUBeneath : Addr} {slUBeneath : Array (Option Value)} {qqUBeneath : Str} {eBeneath p0Beneath p1Beneath p2Beneath p3Beneath p4Beneath : Pos} {clUBeneath : Value} {cldUBeneath : Option Addr} {cslUBeneath : Array (Option Value)} {cclUBeneath : Value} {cddUBeneath : Option Addr} {vsUBeneath : Array Value} {ccsUBeneath : Array (Option Value)} {fileUBeneath : Str} {tfUBeneath : Tok}
    (n_VoteError : PySem.W.nsIn K mainGlobals "VoteError" = some (some (.ref c_VoteError)))
    (n_BadTree : PySem.W.nsIn K mainGlobals "BadTree" = some (some (.ref c_BadTree)))
    (n_NoBlock : PySem.W.nsIn K mainGlobals "NoBlock" = some (some (.ref c_NoBlock)))
    (n_NoPlace : PySem.W.nsIn K mainGlobals "NoPlace" = some (some (.ref c_NoPlace)))
    (n_Beneath : PySem.W.nsIn K mainGlobals "Beneath" = some (some (.ref c_Beneath)))
    (n_OtherBlocks : PySem.W.nsIn K mainGlobals "OtherBlocks" = some (some (.ref c_OtherBlocks)))
    (n_BadWords : PySem.W.nsIn K mainGlobals "BadWords" = some (some (.ref c_BadWords)))
    (n_BadHistory : PySem.W.nsIn K mainGlobals "BadHistory" = some (some (.ref c_BadHistory)))
    (n_Tree : PySem.W.nsIn K mainGlobals "Tree" = some (some (.ref c_Tree)))
    (n_Words : PySem.W.nsIn K mainGlobals "Words" = some (some (.ref c_Words)))
    (n_History : PySem.W.nsIn K mainGlobals "History" = some (some (.ref c_History)))
    (n_MOST_BLOCKS : PySem.W.nsIn K mainGlobals "MOST_BLOCKS" = some (some (.int 40 t_MOST_BLOCKS)))
    (n_MOST_MOVES : PySem.W.nsIn K mainGlobals "MOST_MOVES" = some (some (.int 100 t_MOST_MOVES)))
    (z_ValueError : PySem.W.nsIn K mainGlobals "ValueError" = some none)
    (z_abs : PySem.W.nsIn K mainGlobals "abs" = some none)
    (z_all : PySem.W.nsIn K mainGlobals "all" = some none)
    (z_bool : PySem.W.nsIn K mainGlobals "bool" = some none)
    (z_dict : PySem.W.nsIn K mainGlobals "dict" = some none)
    (z_enumerate : PySem.W.nsIn K mainGlobals "enumerate" = some none)
    (z_int : PySem.W.nsIn K mainGlobals "int" = some none)
    (z_isinstance : PySem.W.nsIn K mainGlobals "isinstance" = some none)
    (z_len : PySem.W.nsIn K mainGlobals "len" = some none)
    (z_list : PySem.W.nsIn K mainGlobals "list" = some none)
    (z_min : PySem.W.nsIn K mainGlobals "min" = some none)
    (z_range : PySem.W.nsIn K mainGlobals "range" = some none)
    (z_set : PySem.W.nsIn K mainGlobals "set" = some none)
    (z_sorted : PySem.W.nsIn K mainGlobals "sorted" = some none)
    (z_str : PySem.W.nsIn K mainGlobals "str" = some none)
    (z_super : PySem.W.nsIn K mainGlobals "super" = some none)
    (z_tuple : PySem.W.nsIn K mainGlobals "tuple" = some none)
    (a_BadTree___init__ : PySem.W.findIn K (.ref c_BadTree) "__init__" = some (some (.ref f_BadTree___init__)))
    (i_BadTree___init__ : PySem.W.isFn K (.ref f_BadTree___init__) = true)
    (l_BadTree___init__ : K.lookup f_BadTree___init__ = some ⟨oc_BadTree___init__, od_BadTree___init__, .func (PySem.W.fnOf "__init__" "BadTree.__init__" (defArgs s_BadTree___init__) (defBody s_BadTree___init__) (defScope s_BadTree___init__) .none kV_BadTree___init__ dc_BadTree___init__ pm_BadTree___init__ an_BadTree___init__ cd_BadTree___init__ ct_BadTree___init__), sl_BadTree___init__⟩)
    (c_BadTree___init__ : PySem.W.codeIn K cd_BadTree___init__ "BadTree.__init__" = true)
    (k_BadTree___init__ : PySem.W.keepIn K (.ref f_BadTree___init__) = true)
    (a_BadHistory___init__ : PySem.W.findIn K (.ref c_BadHistory) "__init__" = some (some (.ref f_BadHistory___init__)))
    (i_BadHistory___init__ : PySem.W.isFn K (.ref f_BadHistory___init__) = true)
    (l_BadHistory___init__ : K.lookup f_BadHistory___init__ = some ⟨oc_BadHistory___init__, od_BadHistory___init__, .func (PySem.W.fnOf "__init__" "BadHistory.__init__" (defArgs s_BadHistory___init__) (defBody s_BadHistory___init__) (defScope s_BadHistory___init__) .none kV_BadHistory___init__ dc_BadHistory___init__ pm_BadHistory___init__ an_BadHistory___init__ cd_BadHistory___init__ ct_BadHistory___init__), sl_BadHistory___init__⟩)
    (c_BadHistory___init__ : PySem.W.codeIn K cd_BadHistory___init__ "BadHistory.__init__" = true)
    (k_BadHistory___init__ : PySem.W.keepIn K (.ref f_BadHistory___init__) = true)
    (a_is_within : PySem.W.nsIn K mainGlobals "is_within" = some (some (.ref f_is_within)))
    (l_is_within : K.lookup f_is_within = some ⟨oc_is_within, od_is_within, .func (PySem.W.fnOf "is_within" "is_within" (defArgs s_is_within) (defBody s_is_within) (defScope s_is_within) .none kV_is_within dc_is_within pm_is_within an_is_within cd_is_within ct_is_within), sl_is_within⟩)
    (c_is_within : PySem.W.codeIn K cd_is_within "is_within" = true)
    (k_is_within : PySem.W.keepIn K (.ref f_is_within) = true)
    (a_is_pair : PySem.W.nsIn K mainGlobals "is_pair" = some (some (.ref f_is_pair)))
    (l_is_pair : K.lookup f_is_pair = some ⟨oc_is_pair, od_is_pair, .func (PySem.W.fnOf "is_pair" "is_pair" (defArgs s_is_pair) (defBody s_is_pair) (defScope s_is_pair) .none kV_is_pair dc_is_pair pm_is_pair an_is_pair cd_is_pair ct_is_pair), sl_is_pair⟩)
    (c_is_pair : PySem.W.codeIn K cd_is_pair "is_pair" = true)
    (k_is_pair : PySem.W.keepIn K (.ref f_is_pair) = true)
    (a_Tree___init__ : PySem.W.findIn K (.ref c_Tree) "__init__" = some (some (.ref f_Tree___init__)))
    (i_Tree___init__ : PySem.W.isFn K (.ref f_Tree___init__) = true)
    (l_Tree___init__ : K.lookup f_Tree___init__ = some ⟨oc_Tree___init__, od_Tree___init__, .func (PySem.W.fnOf "__init__" "Tree.__init__" (defArgs s_Tree___init__) (defBody s_Tree___init__) (defScope s_Tree___init__) .none kV_Tree___init__ dc_Tree___init__ pm_Tree___init__ an_Tree___init__ cd_Tree___init__ ct_Tree___init__), sl_Tree___init__⟩)
    (c_Tree___init__ : PySem.W.codeIn K cd_Tree___init__ "Tree.__init__" = true)
    (k_Tree___init__ : PySem.W.keepIn K (.ref f_Tree___init__) = true)
    (a__comes_to_head : PySem.W.nsIn K mainGlobals "_comes_to_head" = some (some (.ref f__comes_to_head)))
    (l__comes_to_head : K.lookup f__comes_to_head = some ⟨oc__comes_to_head, od__comes_to_head, .func (PySem.W.fnOf "_comes_to_head" "_comes_to_head" (defArgs s__comes_to_head) (defBody s__comes_to_head) (defScope s__comes_to_head) .none kV__comes_to_head dc__comes_to_head pm__comes_to_head an__comes_to_head cd__comes_to_head ct__comes_to_head), sl__comes_to_head⟩)
    (c__comes_to_head : PySem.W.codeIn K cd__comes_to_head "_comes_to_head" = true)
    (k__comes_to_head : PySem.W.keepIn K (.ref f__comes_to_head) = true)
    (a_is_block : PySem.W.nsIn K mainGlobals "is_block" = some (some (.ref f_is_block)))
    (l_is_block : K.lookup f_is_block = some ⟨oc_is_block, od_is_block, .func (PySem.W.fnOf "is_block" "is_block" (defArgs s_is_block) (defBody s_is_block) (defScope s_is_block) .none kV_is_block dc_is_block pm_is_block an_is_block cd_is_block ct_is_block), sl_is_block⟩)
    (c_is_block : PySem.W.codeIn K cd_is_block "is_block" = true)
    (k_is_block : PySem.W.keepIn K (.ref f_is_block) = true)
    (a_is_place : PySem.W.nsIn K mainGlobals "is_place" = some (some (.ref f_is_place)))
    (l_is_place : K.lookup f_is_place = some ⟨oc_is_place, od_is_place, .func (PySem.W.fnOf "is_place" "is_place" (defArgs s_is_place) (defBody s_is_place) (defScope s_is_place) .none kV_is_place dc_is_place pm_is_place an_is_place cd_is_place ct_is_place), sl_is_place⟩)
    (c_is_place : PySem.W.codeIn K cd_is_place "is_place" = true)
    (k_is_place : PySem.W.keepIn K (.ref f_is_place) = true)
    (a_place_of : PySem.W.nsIn K mainGlobals "place_of" = some (some (.ref f_place_of)))
    (l_place_of : K.lookup f_place_of = some ⟨oc_place_of, od_place_of, .func (PySem.W.fnOf "place_of" "place_of" (defArgs s_place_of) (defBody s_place_of) (defScope s_place_of) .none kV_place_of dc_place_of pm_place_of an_place_of cd_place_of ct_place_of), sl_place_of⟩)
    (c_place_of : PySem.W.codeIn K cd_place_of "place_of" = true)
    (k_place_of : PySem.W.keepIn K (.ref f_place_of) = true)
    (a_parents : PySem.W.nsIn K mainGlobals "parents" = some (some (.ref f_parents)))
    (l_parents : K.lookup f_parents = some ⟨oc_parents, od_parents, .func (PySem.W.fnOf "parents" "parents" (defArgs s_parents) (defBody s_parents) (defScope s_parents) .none kV_parents dc_parents pm_parents an_parents cd_parents ct_parents), sl_parents⟩)
    (c_parents : PySem.W.codeIn K cd_parents "parents" = true)
    (k_parents : PySem.W.keepIn K (.ref f_parents) = true)
    (a_beneath : PySem.W.nsIn K mainGlobals "beneath" = some (some (.ref f_beneath)))
    (l_beneath : K.lookup f_beneath = some ⟨oc_beneath, od_beneath, .func (PySem.W.fnOf "beneath" "beneath" (defArgs s_beneath) (defBody s_beneath) (defScope s_beneath) .none kV_beneath dc_beneath pm_beneath an_beneath cd_beneath ct_beneath), sl_beneath⟩)
    (c_beneath : PySem.W.codeIn K cd_beneath "beneath" = true)
    (k_beneath : PySem.W.keepIn K (.ref f_beneath) = true)
    (a_moved : PySem.W.nsIn K mainGlobals "moved" = some (some (.ref f_moved)))
    (l_moved : K.lookup f_moved = some ⟨oc_moved, od_moved, .func (PySem.W.fnOf "moved" "moved" (defArgs s_moved) (defBody s_moved) (defScope s_moved) .none kV_moved dc_moved pm_moved an_moved cd_moved ct_moved), sl_moved⟩)
    (c_moved : PySem.W.codeIn K cd_moved "moved" = true)
    (k_moved : PySem.W.keepIn K (.ref f_moved) = true)
    (a_Words___init__ : PySem.W.findIn K (.ref c_Words) "__init__" = some (some (.ref f_Words___init__)))
    (i_Words___init__ : PySem.W.isFn K (.ref f_Words___init__) = true)
    (l_Words___init__ : K.lookup f_Words___init__ = some ⟨oc_Words___init__, od_Words___init__, .func (PySem.W.fnOf "__init__" "Words.__init__" (defArgs s_Words___init__) (defBody s_Words___init__) (defScope s_Words___init__) .none kV_Words___init__ dc_Words___init__ pm_Words___init__ an_Words___init__ cd_Words___init__ ct_Words___init__), sl_Words___init__⟩)
    (c_Words___init__ : PySem.W.codeIn K cd_Words___init__ "Words.__init__" = true)
    (k_Words___init__ : PySem.W.keepIn K (.ref f_Words___init__) = true)
    (a__is_tuple_of : PySem.W.nsIn K mainGlobals "_is_tuple_of" = some (some (.ref f__is_tuple_of)))
    (l__is_tuple_of : K.lookup f__is_tuple_of = some ⟨oc__is_tuple_of, od__is_tuple_of, .func (PySem.W.fnOf "_is_tuple_of" "_is_tuple_of" (defArgs s__is_tuple_of) (defBody s__is_tuple_of) (defScope s__is_tuple_of) .none kV__is_tuple_of dc__is_tuple_of pm__is_tuple_of an__is_tuple_of cd__is_tuple_of ct__is_tuple_of), sl__is_tuple_of⟩)
    (c__is_tuple_of : PySem.W.codeIn K cd__is_tuple_of "_is_tuple_of" = true)
    (k__is_tuple_of : PySem.W.keepIn K (.ref f__is_tuple_of) = true)
    (a__is_up : PySem.W.nsIn K mainGlobals "_is_up" = some (some (.ref f__is_up)))
    (l__is_up : K.lookup f__is_up = some ⟨oc__is_up, od__is_up, .func (PySem.W.fnOf "_is_up" "_is_up" (defArgs s__is_up) (defBody s__is_up) (defScope s__is_up) .none kV__is_up dc__is_up pm__is_up an__is_up cd__is_up ct__is_up), sl__is_up⟩)
    (c__is_up : PySem.W.codeIn K cd__is_up "_is_up" = true)
    (k__is_up : PySem.W.keepIn K (.ref f__is_up) = true)
    (a__is_listing : PySem.W.nsIn K mainGlobals "_is_listing" = some (some (.ref f__is_listing)))
    (l__is_listing : K.lookup f__is_listing = some ⟨oc__is_listing, od__is_listing, .func (PySem.W.fnOf "_is_listing" "_is_listing" (defArgs s__is_listing) (defBody s__is_listing) (defScope s__is_listing) .none kV__is_listing dc__is_listing pm__is_listing an__is_listing cd__is_listing ct__is_listing), sl__is_listing⟩)
    (c__is_listing : PySem.W.codeIn K cd__is_listing "_is_listing" = true)
    (k__is_listing : PySem.W.keepIn K (.ref f__is_listing) = true)
    (a_History___init__ : PySem.W.findIn K (.ref c_History) "__init__" = some (some (.ref f_History___init__)))
    (i_History___init__ : PySem.W.isFn K (.ref f_History___init__) = true)
    (l_History___init__ : K.lookup f_History___init__ = some ⟨oc_History___init__, od_History___init__, .func (PySem.W.fnOf "__init__" "History.__init__" (defArgs s_History___init__) (defBody s_History___init__) (defScope s_History___init__) .none kV_History___init__ dc_History___init__ pm_History___init__ an_History___init__ cd_History___init__ ct_History___init__), sl_History___init__⟩)
    (c_History___init__ : PySem.W.codeIn K cd_History___init__ "History.__init__" = true)
    (k_History___init__ : PySem.W.keepIn K (.ref f_History___init__) = true)
    (a_had : PySem.W.nsIn K mainGlobals "had" = some (some (.ref f_had)))
    (l_had : K.lookup f_had = some ⟨oc_had, od_had, .func (PySem.W.fnOf "had" "had" (defArgs s_had) (defBody s_had) (defScope s_had) .none kV_had dc_had pm_had an_had cd_had ct_had), sl_had⟩)
    (c_had : PySem.W.codeIn K cd_had "had" = true)
    (k_had : PySem.W.keepIn K (.ref f_had) = true)
    (a__ties_of : PySem.W.nsIn K mainGlobals "_ties_of" = some (some (.ref f__ties_of)))
    (l__ties_of : K.lookup f__ties_of = some ⟨oc__ties_of, od__ties_of, .func (PySem.W.fnOf "_ties_of" "_ties_of" (defArgs s__ties_of) (defBody s__ties_of) (defScope s__ties_of) .none kV__ties_of dc__ties_of pm__ties_of an__ties_of cd__ties_of ct__ties_of), sl__ties_of⟩)
    (c__ties_of : PySem.W.codeIn K cd__ties_of "_ties_of" = true)
    (k__ties_of : PySem.W.keepIn K (.ref f__ties_of) = true)
    (a_can_stand : PySem.W.nsIn K mainGlobals "can_stand" = some (some (.ref f_can_stand)))
    (l_can_stand : K.lookup f_can_stand = some ⟨oc_can_stand, od_can_stand, .func (PySem.W.fnOf "can_stand" "can_stand" (defArgs s_can_stand) (defBody s_can_stand) (defScope s_can_stand) .none kV_can_stand dc_can_stand pm_can_stand an_can_stand cd_can_stand ct_can_stand), sl_can_stand⟩)
    (c_can_stand : PySem.W.codeIn K cd_can_stand "can_stand" = true)
    (k_can_stand : PySem.W.keepIn K (.ref f_can_stand) = true)
    (a__can_be : PySem.W.nsIn K mainGlobals "_can_be" = some (some (.ref f__can_be)))
    (l__can_be : K.lookup f__can_be = some ⟨oc__can_be, od__can_be, .func (PySem.W.fnOf "_can_be" "_can_be" (defArgs s__can_be) (defBody s__can_be) (defScope s__can_be) .none kV__can_be dc__can_be pm__can_be an__can_be cd__can_be ct__can_be), sl__can_be⟩)
    (c__can_be : PySem.W.codeIn K cd__can_be "_can_be" = true)
    (k__can_be : PySem.W.keepIn K (.ref f__can_be) = true)
    (a_many_pictures : PySem.W.nsIn K mainGlobals "many_pictures" = some (some (.ref f_many_pictures)))
    (l_many_pictures : K.lookup f_many_pictures = some ⟨oc_many_pictures, od_many_pictures, .func (PySem.W.fnOf "many_pictures" "many_pictures" (defArgs s_many_pictures) (defBody s_many_pictures) (defScope s_many_pictures) .none kV_many_pictures dc_many_pictures pm_many_pictures an_many_pictures cd_many_pictures ct_many_pictures), sl_many_pictures⟩)
    (c_many_pictures : PySem.W.codeIn K cd_many_pictures "many_pictures" = true)
    (k_many_pictures : PySem.W.keepIn K (.ref f_many_pictures) = true)
    (a__law_hand : PySem.W.nsIn K mainGlobals "_law_hand" = some (some (.ref f__law_hand)))
    (l__law_hand : K.lookup f__law_hand = some ⟨oc__law_hand, od__law_hand, .func (PySem.W.fnOf "_law_hand" "_law_hand" (defArgs s__law_hand) (defBody s__law_hand) (defScope s__law_hand) .none kV__law_hand dc__law_hand pm__law_hand an__law_hand cd__law_hand ct__law_hand), sl__law_hand⟩)
    (c__law_hand : PySem.W.codeIn K cd__law_hand "_law_hand" = true)
    (k__law_hand : PySem.W.keepIn K (.ref f__law_hand) = true)
    (a__law_draw : PySem.W.nsIn K mainGlobals "_law_draw" = some (some (.ref f__law_draw)))
    (l__law_draw : K.lookup f__law_draw = some ⟨oc__law_draw, od__law_draw, .func (PySem.W.fnOf "_law_draw" "_law_draw" (defArgs s__law_draw) (defBody s__law_draw) (defScope s__law_draw) .none kV__law_draw dc__law_draw pm__law_draw an__law_draw cd__law_draw ct__law_draw), sl__law_draw⟩)
    (c__law_draw : PySem.W.codeIn K cd__law_draw "_law_draw" = true)
    (k__law_draw : PySem.W.keepIn K (.ref f__law_draw) = true)
    (a__law_tree : PySem.W.nsIn K mainGlobals "_law_tree" = some (some (.ref f__law_tree)))
    (l__law_tree : K.lookup f__law_tree = some ⟨oc__law_tree, od__law_tree, .func (PySem.W.fnOf "_law_tree" "_law_tree" (defArgs s__law_tree) (defBody s__law_tree) (defScope s__law_tree) .none kV__law_tree dc__law_tree pm__law_tree an__law_tree cd__law_tree ct__law_tree), sl__law_tree⟩)
    (c__law_tree : PySem.W.codeIn K cd__law_tree "_law_tree" = true)
    (k__law_tree : PySem.W.keepIn K (.ref f__law_tree) = true)
    (a__law_row : PySem.W.nsIn K mainGlobals "_law_row" = some (some (.ref f__law_row)))
    (l__law_row : K.lookup f__law_row = some ⟨oc__law_row, od__law_row, .func (PySem.W.fnOf "_law_row" "_law_row" (defArgs s__law_row) (defBody s__law_row) (defScope s__law_row) .none kV__law_row dc__law_row pm__law_row an__law_row cd__law_row ct__law_row), sl__law_row⟩)
    (c__law_row : PySem.W.codeIn K cd__law_row "_law_row" = true)
    (k__law_row : PySem.W.keepIn K (.ref f__law_row) = true)
    (a__law_beneath : PySem.W.nsIn K mainGlobals "_law_beneath" = some (some (.ref f__law_beneath)))
    (l__law_beneath : K.lookup f__law_beneath = some ⟨oc__law_beneath, od__law_beneath, .func (PySem.W.fnOf "_law_beneath" "_law_beneath" (defArgs s__law_beneath) (defBody s__law_beneath) (defScope s__law_beneath) .none kV__law_beneath dc__law_beneath pm__law_beneath an__law_beneath cd__law_beneath ct__law_beneath), sl__law_beneath⟩)
    (c__law_beneath : PySem.W.codeIn K cd__law_beneath "_law_beneath" = true)
    (k__law_beneath : PySem.W.keepIn K (.ref f__law_beneath) = true)
    (a__law_put : PySem.W.nsIn K mainGlobals "_law_put" = some (some (.ref f__law_put)))
    (l__law_put : K.lookup f__law_put = some ⟨oc__law_put, od__law_put, .func (PySem.W.fnOf "_law_put" "_law_put" (defArgs s__law_put) (defBody s__law_put) (defScope s__law_put) .none kV__law_put dc__law_put pm__law_put an__law_put cd__law_put ct__law_put), sl__law_put⟩)
    (c__law_put : PySem.W.codeIn K cd__law_put "_law_put" = true)
    (k__law_put : PySem.W.keepIn K (.ref f__law_put) = true)
    (a__law_moves : PySem.W.nsIn K mainGlobals "_law_moves" = some (some (.ref f__law_moves)))
    (l__law_moves : K.lookup f__law_moves = some ⟨oc__law_moves, od__law_moves, .func (PySem.W.fnOf "_law_moves" "_law_moves" (defArgs s__law_moves) (defBody s__law_moves) (defScope s__law_moves) .none kV__law_moves dc__law_moves pm__law_moves an__law_moves cd__law_moves ct__law_moves), sl__law_moves⟩)
    (c__law_moves : PySem.W.codeIn K cd__law_moves "_law_moves" = true)
    (k__law_moves : PySem.W.keepIn K (.ref f__law_moves) = true)
    (a__law_had : PySem.W.nsIn K mainGlobals "_law_had" = some (some (.ref f__law_had)))
    (l__law_had : K.lookup f__law_had = some ⟨oc__law_had, od__law_had, .func (PySem.W.fnOf "_law_had" "_law_had" (defArgs s__law_had) (defBody s__law_had) (defScope s__law_had) .none kV__law_had dc__law_had pm__law_had an__law_had cd__law_had ct__law_had), sl__law_had⟩)
    (c__law_had : PySem.W.codeIn K cd__law_had "_law_had" = true)
    (k__law_had : PySem.W.keepIn K (.ref f__law_had) = true)
    (a__law_worths : PySem.W.nsIn K mainGlobals "_law_worths" = some (some (.ref f__law_worths)))
    (l__law_worths : K.lookup f__law_worths = some ⟨oc__law_worths, od__law_worths, .func (PySem.W.fnOf "_law_worths" "_law_worths" (defArgs s__law_worths) (defBody s__law_worths) (defScope s__law_worths) .none kV__law_worths dc__law_worths pm__law_worths an__law_worths cd__law_worths ct__law_worths), sl__law_worths⟩)
    (c__law_worths : PySem.W.codeIn K cd__law_worths "_law_worths" = true)
    (k__law_worths : PySem.W.keepIn K (.ref f__law_worths) = true)
    (a__law_words : PySem.W.nsIn K mainGlobals "_law_words" = some (some (.ref f__law_words)))
    (l__law_words : K.lookup f__law_words = some ⟨oc__law_words, od__law_words, .func (PySem.W.fnOf "_law_words" "_law_words" (defArgs s__law_words) (defBody s__law_words) (defScope s__law_words) .none kV__law_words dc__law_words pm__law_words an__law_words cd__law_words ct__law_words), sl__law_words⟩)
    (c__law_words : PySem.W.codeIn K cd__law_words "_law_words" = true)
    (k__law_words : PySem.W.keepIn K (.ref f__law_words) = true)
    (a__law_stands : PySem.W.nsIn K mainGlobals "_law_stands" = some (some (.ref f__law_stands)))
    (l__law_stands : K.lookup f__law_stands = some ⟨oc__law_stands, od__law_stands, .func (PySem.W.fnOf "_law_stands" "_law_stands" (defArgs s__law_stands) (defBody s__law_stands) (defScope s__law_stands) .none kV__law_stands dc__law_stands pm__law_stands an__law_stands cd__law_stands ct__law_stands), sl__law_stands⟩)
    (c__law_stands : PySem.W.codeIn K cd__law_stands "_law_stands" = true)
    (k__law_stands : PySem.W.keepIn K (.ref f__law_stands) = true)
    (a__law_turned : PySem.W.nsIn K mainGlobals "_law_turned" = some (some (.ref f__law_turned)))
    (l__law_turned : K.lookup f__law_turned = some ⟨oc__law_turned, od__law_turned, .func (PySem.W.fnOf "_law_turned" "_law_turned" (defArgs s__law_turned) (defBody s__law_turned) (defScope s__law_turned) .none kV__law_turned dc__law_turned pm__law_turned an__law_turned cd__law_turned ct__law_turned), sl__law_turned⟩)
    (c__law_turned : PySem.W.codeIn K cd__law_turned "_law_turned" = true)
    (k__law_turned : PySem.W.keepIn K (.ref f__law_turned) = true)
    (a__law_all : PySem.W.nsIn K mainGlobals "_law_all" = some (some (.ref f__law_all)))
    (l__law_all : K.lookup f__law_all = some ⟨oc__law_all, od__law_all, .func (PySem.W.fnOf "_law_all" "_law_all" (defArgs s__law_all) (defBody s__law_all) (defScope s__law_all) .none kV__law_all dc__law_all pm__law_all an__law_all cd__law_all ct__law_all), sl__law_all⟩)
    (c__law_all : PySem.W.codeIn K cd__law_all "_law_all" = true)
    (k__law_all : PySem.W.keepIn K (.ref f__law_all) = true)
    (a_law : PySem.W.nsIn K mainGlobals "law" = some (some (.ref f_law)))
    (l_law : K.lookup f_law = some ⟨oc_law, od_law, .func (PySem.W.fnOf "law" "law" (defArgs s_law) (defBody s_law) (defScope s_law) .none kV_law dc_law pm_law an_law cd_law ct_law), sl_law⟩)
    (c_law : PySem.W.codeIn K cd_law "law" = true)
    (k_law : PySem.W.keepIn K (.ref f_law) = true)
    (pgTree : PySem.W.plainGet K c_Tree Str.empty = true)
    (hdTree : PySem.W.hasDictIn K c_Tree = true)
    (poTree : PySem.W.plainOver K c_Tree = true)
    (saTree : PySem.W.findIn K (.ref c_Tree) "__setattr__" = some (some (.builtin "object.__setattr__")))
    (mkTree : PySem.W.makesIn K c_Tree = true)
    (kcTree : PySem.W.keepIn K (.ref c_Tree) = true)
    (noTree_hung : PySem.W.findIn K (.ref c_Tree) "hung" = some none)
    (haTree : PySem.W.findIn K (.ref c_Tree) "__class__" = some (some (.builtin "object.__class__")))
    (hmTree : PySem.W.mroIn K c_Tree (.type "object") = some true)
    (icTree : PySem.W.isClsIn K c_Tree = true)
    (tyTree : PySem.W.typeIn K (.ref c_Tree) = some (.type "type"))
    (spO : PySem.W.specialIn K (.builtin "object.__class__") "__get__" = some (some (.builtin "getset_descriptor.__get__")))
    (tkO : PySem.W.takesIn K (.builtin "object.__class__") = some true)
    (pgWords : PySem.W.plainGet K c_Words Str.empty = true)
    (hdWords : PySem.W.hasDictIn K c_Words = true)
    (poWords : PySem.W.plainOver K c_Words = true)
    (saWords : PySem.W.findIn K (.ref c_Words) "__setattr__" = some (some (.builtin "object.__setattr__")))
    (mkWords : PySem.W.makesIn K c_Words = true)
    (kcWords : PySem.W.keepIn K (.ref c_Words) = true)
    (noWords_blocks : PySem.W.findIn K (.ref c_Words) "blocks" = some none)
    (noWords_ups : PySem.W.findIn K (.ref c_Words) "ups" = some none)
    (noWords_lists : PySem.W.findIn K (.ref c_Words) "lists" = some none)
    (haWords : PySem.W.findIn K (.ref c_Words) "__class__" = some (some (.builtin "object.__class__")))
    (hmWords : PySem.W.mroIn K c_Words (.type "object") = some true)
    (icWords : PySem.W.isClsIn K c_Words = true)
    (tyWords : PySem.W.typeIn K (.ref c_Words) = some (.type "type"))
    (pgHistory : PySem.W.plainGet K c_History Str.empty = true)
    (hdHistory : PySem.W.hasDictIn K c_History = true)
    (poHistory : PySem.W.plainOver K c_History = true)
    (saHistory : PySem.W.findIn K (.ref c_History) "__setattr__" = some (some (.builtin "object.__setattr__")))
    (mkHistory : PySem.W.makesIn K c_History = true)
    (kcHistory : PySem.W.keepIn K (.ref c_History) = true)
    (noHistory_tree : PySem.W.findIn K (.ref c_History) "tree" = some none)
    (noHistory_moves : PySem.W.findIn K (.ref c_History) "moves" = some none)
    (xLBadTree : K.lookup c_BadTree = some (excClassObj nmBadTree qBadTree c_BadTree NBadTree bsBadTree bmBadTree true snBadTree subBadTree abBadTree colBadTree ddBadTree m0BadTree m1BadTree m2BadTree m3BadTree m5BadTree "ValueError.__new__"))
    (rvBadTree : PySem.HandSPX.refsVE bmBadTree = true)
    (saEBadTree : PySem.W.findIn K (.ref c_BadTree) "__setattr__" = some (some (.builtin "object.__setattr__")))
    (exEBadTree : PySem.W.subIn K (.ref c_BadTree) (.type "BaseException") = some true)
    (tyEBadTree : PySem.W.typeIn K (.ref c_BadTree) = some (.type "type"))
    (kcEBadTree : PySem.W.keepIn K (.ref c_BadTree) = true)
    (tiEBadTree : PySem.W.typeIn K (.ref f_BadTree___init__) = some (.type "function"))
    (noEBadTree : PySem.W.findIn K (.ref c_BadTree) "part" = some none)
    (xLBadHistory : K.lookup c_BadHistory = some (excClassObj nmBadHistory qBadHistory c_BadHistory NBadHistory bsBadHistory bmBadHistory true snBadHistory subBadHistory abBadHistory colBadHistory ddBadHistory m0BadHistory m1BadHistory m2BadHistory m3BadHistory m5BadHistory "ValueError.__new__"))
    (rvBadHistory : PySem.HandSPX.refsVE bmBadHistory = true)
    (saEBadHistory : PySem.W.findIn K (.ref c_BadHistory) "__setattr__" = some (some (.builtin "object.__setattr__")))
    (exEBadHistory : PySem.W.subIn K (.ref c_BadHistory) (.type "BaseException") = some true)
    (tyEBadHistory : PySem.W.typeIn K (.ref c_BadHistory) = some (.type "type"))
    (kcEBadHistory : PySem.W.keepIn K (.ref c_BadHistory) = true)
    (tiEBadHistory : PySem.W.typeIn K (.ref f_BadHistory___init__) = some (.type "function"))
    (noEBadHistory : PySem.W.findIn K (.ref c_BadHistory) "part" = some none)
    (xUNoBlock : K.lookup c_NoBlock = some (excClassObj nmUNoBlock qUNoBlock c_NoBlock NUNoBlock bsUNoBlock bmUNoBlock true snUNoBlock subUNoBlock abUNoBlock colUNoBlock ddUNoBlock u0NoBlock u1NoBlock u2NoBlock u3NoBlock u5NoBlock "ValueError.__new__"))
    (rvUNoBlock : PySem.HandSPX.refsVE bmUNoBlock = true)
    (saUNoBlock : PySem.W.findIn K (.ref c_NoBlock) "__setattr__" = some (some (.builtin "object.__setattr__")))
    (exUNoBlock : PySem.W.subIn K (.ref c_NoBlock) (.type "BaseException") = some true)
    (tyUNoBlock : PySem.W.typeIn K (.ref c_NoBlock) = some (.type "type"))
    (kcUNoBlock : PySem.W.keepIn K (.ref c_NoBlock) = true)
    (iUNoBlock : PySem.W.findIn K (.ref c_NoBlock) "__init__" = some (some (.ref f_UNoBlock)))
    (tiUNoBlock : PySem.W.typeIn K (.ref f_UNoBlock) = some (.type "function"))
    (lUNoBlock : K.lookup f_UNoBlock = some ⟨ocUNoBlock, odUNoBlock, .func (PySem.W.ksFn "__init__" qqUNoBlock (siA eNoBlock) (siB p0NoBlock p1NoBlock p2NoBlock p3NoBlock p4NoBlock) siS .none kVUNoBlock docUNoBlock pmUNoBlock anUNoBlock (.ref cdUNoBlock) ctUNoBlock ccUNoBlock), slUNoBlock⟩)
    (cUNoBlock : PySem.W.codeIn K (.ref cdUNoBlock) qqUNoBlock = true)
    (ceUNoBlock : K.lookup ccUNoBlock = some ⟨clUNoBlock, cldUNoBlock, .cell (some (.ref c_NoBlock)), cslUNoBlock⟩)
    (coUNoBlock : K.lookup cdUNoBlock = some ⟨cclUNoBlock, cddUNoBlock, .fields vsUNoBlock, ccsUNoBlock⟩)
    (vsU2NoBlock : vsUNoBlock[2]? = some (.str fileUNoBlock tfUNoBlock))
    (fiUNoBlock : ((P.main.file : Str) == fileUNoBlock) = true)
    (evUNoBlock : SupEv p0NoBlock p1NoBlock p2NoBlock p3NoBlock)
    (upUNoBlock : PySem.W.ks_superIn K c_NoBlock c_NoBlock "__init__" = some (some (.builtin "ValueError.__init__")))
    (meUNoBlock : PySem.W.mroIn K c_NoBlock (.ref c_NoBlock) = some true)
    (veUNoBlock : PySem.W.subIn K (.ref c_NoBlock) (.type "ValueError") = some true)
    (opU : PySem.W.nsIn K cStatics "thirdparty.any" = some none)
    (tpU : (P.main.scope.names.lookup ("super" : Str)).isSome = false)
    (xUNoPlace : K.lookup c_NoPlace = some (excClassObj nmUNoPlace qUNoPlace c_NoPlace NUNoPlace bsUNoPlace bmUNoPlace true snUNoPlace subUNoPlace abUNoPlace colUNoPlace ddUNoPlace u0NoPlace u1NoPlace u2NoPlace u3NoPlace u5NoPlace "ValueError.__new__"))
    (rvUNoPlace : PySem.HandSPX.refsVE bmUNoPlace = true)
    (saUNoPlace : PySem.W.findIn K (.ref c_NoPlace) "__setattr__" = some (some (.builtin "object.__setattr__")))
    (exUNoPlace : PySem.W.subIn K (.ref c_NoPlace) (.type "BaseException") = some true)
    (tyUNoPlace : PySem.W.typeIn K (.ref c_NoPlace) = some (.type "type"))
    (kcUNoPlace : PySem.W.keepIn K (.ref c_NoPlace) = true)
    (iUNoPlace : PySem.W.findIn K (.ref c_NoPlace) "__init__" = some (some (.ref f_UNoPlace)))
    (tiUNoPlace : PySem.W.typeIn K (.ref f_UNoPlace) = some (.type "function"))
    (lUNoPlace : K.lookup f_UNoPlace = some ⟨ocUNoPlace, odUNoPlace, .func (PySem.W.ksFn "__init__" qqUNoPlace (siA eNoPlace) (siB p0NoPlace p1NoPlace p2NoPlace p3NoPlace p4NoPlace) siS .none kVUNoPlace docUNoPlace pmUNoPlace anUNoPlace (.ref cdUNoPlace) ctUNoPlace ccUNoPlace), slUNoPlace⟩)
    (cUNoPlace : PySem.W.codeIn K (.ref cdUNoPlace) qqUNoPlace = true)
    (ceUNoPlace : K.lookup ccUNoPlace = some ⟨clUNoPlace, cldUNoPlace, .cell (some (.ref c_NoPlace)), cslUNoPlace⟩)
    (coUNoPlace : K.lookup cdUNoPlace = some ⟨cclUNoPlace, cddUNoPlace, .fields vsUNoPlace, ccsUNoPlace⟩)
    (vsU2NoPlace : vsUNoPlace[2]? = some (.str fileUNoPlace tfUNoPlace))
    (fiUNoPlace : ((P.main.file : Str) == fileUNoPlace) = true)
    (evUNoPlace : SupEv p0NoPlace p1NoPlace p2NoPlace p3NoPlace)
    (upUNoPlace : PySem.W.ks_superIn K c_NoPlace c_NoPlace "__init__" = some (some (.builtin "ValueError.__init__")))
    (meUNoPlace : PySem.W.mroIn K c_NoPlace (.ref c_NoPlace) = some true)
    (veUNoPlace : PySem.W.subIn K (.ref c_NoPlace) (.type "ValueError") = some true)
    (xUBeneath : K.lookup c_Beneath = some (excClassObj nmUBeneath qUBeneath c_Beneath NUBeneath bsUBeneath bmUBeneath true snUBeneath subUBeneath abUBeneath colUBeneath ddUBeneath u0Beneath u1Beneath u2Beneath u3Beneath u5Beneath "ValueError.__new__"))
    (rvUBeneath : PySem.HandSPX.refsVE bmUBeneath = true)
    (saUBeneath : PySem.W.findIn K (.ref c_Beneath) "__setattr__" = some (some (.builtin "object.__setattr__")))
    (exUBeneath : PySem.W.subIn K (.ref c_Beneath) (.type "BaseException") = some true)
    (tyUBeneath : PySem.W.typeIn K (.ref c_Beneath) = some (.type "type"))
    (kcUBeneath : PySem.W.keepIn K (.ref c_Beneath) = true)
    (iUBeneath : PySem.W.findIn K (.ref c_Beneath) "__init__" = some (some (.ref f_UBeneath)))
    (tiUBeneath : PySem.W.typeIn K (.ref f_UBeneath) = some (.type "function"))
    (lUBeneath : K.lookup f_UBeneath = some ⟨ocUBeneath, odUBeneath, .func (PySem.W.ksFn "__init__" qqUBeneath (siA eBeneath) (siB p0Beneath p1Beneath p2Beneath p3Beneath p4Beneath) siS .none kVUBeneath docUBeneath pmUBeneath anUBeneath (.ref cdUBeneath) ctUBeneath ccUBeneath), slUBeneath⟩)
    (cUBeneath : PySem.W.codeIn K (.ref cdUBeneath) qqUBeneath = true)
    (ceUBeneath : K.lookup ccUBeneath = some ⟨clUBeneath, cldUBeneath, .cell (some (.ref c_Beneath)), cslUBeneath⟩)
    (coUBeneath : K.lookup cdUBeneath = some ⟨cclUBeneath, cddUBeneath, .fields vsUBeneath, ccsUBeneath⟩)
    (vsU2Beneath : vsUBeneath[2]? = some (.str fileUBeneath tfUBeneath))
    (fiUBeneath : ((P.main.file : Str) == fileUBeneath) = true)
    (evUBeneath : SupEv p0Beneath p1Beneath p2Beneath p3Beneath)
    (upUBeneath : PySem.W.ks_superIn K c_Beneath c_Beneath "__init__" = some (some (.builtin "ValueError.__init__")))
    (meUBeneath : PySem.W.mroIn K c_Beneath (.ref c_Beneath) = some true)
    (veUBeneath : PySem.W.subIn K (.ref c_Beneath) (.type "ValueError") = some true)
    (swint : PySem.W.subIn K (.ref c_Tree) (.type "int") = some false)
    (swbool : PySem.W.subIn K (.ref c_Tree) (.type "bool") = some false)
    (swtuple : PySem.W.subIn K (.ref c_Tree) (.type "tuple") = some false)
    (swlist : PySem.W.subIn K (.ref c_Tree) (.type "list") = some false)
    (hdUNoBlock : PySem.W.hasDictIn K c_NoBlock = true)
    (hdUNoPlace : PySem.W.hasDictIn K c_NoPlace = true)
    (hdUBeneath : PySem.W.hasDictIn K c_Beneath = true)
    (suNoBlock_NoBlock : PySem.W.subIn K (.ref c_NoBlock) (.ref c_NoBlock) = some true)
    (suNoBlock_NoPlace : PySem.W.subIn K (.ref c_NoBlock) (.ref c_NoPlace) = some false)
    (suNoBlock_Beneath : PySem.W.subIn K (.ref c_NoBlock) (.ref c_Beneath) = some false)
    (suNoPlace_NoBlock : PySem.W.subIn K (.ref c_NoPlace) (.ref c_NoBlock) = some false)
    (suNoPlace_NoPlace : PySem.W.subIn K (.ref c_NoPlace) (.ref c_NoPlace) = some true)
    (suNoPlace_Beneath : PySem.W.subIn K (.ref c_NoPlace) (.ref c_Beneath) = some false)
    (suBeneath_NoBlock : PySem.W.subIn K (.ref c_Beneath) (.ref c_NoBlock) = some false)
    (suBeneath_NoPlace : PySem.W.subIn K (.ref c_Beneath) (.ref c_NoPlace) = some false)
    (suBeneath_Beneath : PySem.W.subIn K (.ref c_Beneath) (.ref c_Beneath) = some true)
    : ∃ fd : FuncData, (∀ (s : Shared) (v : Value), BindsTo s fd ⟨[v], []⟩ [("_law_script", v)]) ∧ ∀ base : Heap, K.In base → base.Ns mainGlobals mg → FnOk P w K mg base CX0 10 fa fd ["_law_script"] (spLaw K) := by
  have e := hfa.symm.trans (PySem.W.mg_of X G a_law)
  cases e
  have F_BadTree___init__ := fun_mk (st := s_BadTree___init__) l_BadTree___init__ c_BadTree___init__ k_BadTree___init__
  have b_BadTree___init__ := F_BadTree___init__.binds (ps := ["self", "part"]) fun _ _ _ _ _ _ us hl => match us, hl with | [_, _], _ => rfl
  have C_BadTree___init__ := CalM.mk k_BadTree___init__ b_BadTree___init__
  have F_BadHistory___init__ := fun_mk (st := s_BadHistory___init__) l_BadHistory___init__ c_BadHistory___init__ k_BadHistory___init__
  have b_BadHistory___init__ := F_BadHistory___init__.binds (ps := ["self", "part"]) fun _ _ _ _ _ _ us hl => match us, hl with | [_, _], _ => rfl
  have C_BadHistory___init__ := CalM.mk k_BadHistory___init__ b_BadHistory___init__
  have F_is_within := fun_mk (st := s_is_within) l_is_within c_is_within k_is_within
  have b_is_within := F_is_within.binds (ps := ["least", "most", "thing"]) fun _ _ _ _ _ _ us hl => match us, hl with | [_, _, _], _ => rfl
  have C_is_within := Cal.mk (PySem.W.mg_of X G a_is_within) k_is_within b_is_within
  have F_is_pair := fun_mk (st := s_is_pair) l_is_pair c_is_pair k_is_pair
  have b_is_pair := F_is_pair.binds (ps := ["thing"]) fun _ _ _ _ _ _ us hl => match us, hl with | [_], _ => rfl
  have C_is_pair := Cal.mk (PySem.W.mg_of X G a_is_pair) k_is_pair b_is_pair
  have F_Tree___init__ := fun_mk (st := s_Tree___init__) l_Tree___init__ c_Tree___init__ k_Tree___init__
  have b_Tree___init__ := F_Tree___init__.binds (ps := ["self", "hung"]) fun _ _ _ _ _ _ us hl => match us, hl with | [_, _], _ => rfl
  have C_Tree___init__ := CalM.mk k_Tree___init__ b_Tree___init__
  have F__comes_to_head := fun_mk (st := s__comes_to_head) l__comes_to_head c__comes_to_head k__comes_to_head
  have b__comes_to_head := F__comes_to_head.binds (ps := ["hung", "block"]) fun _ _ _ _ _ _ us hl => match us, hl with | [_, _], _ => rfl
  have C__comes_to_head := Cal.mk (PySem.W.mg_of X G a__comes_to_head) k__comes_to_head b__comes_to_head
  have F_is_block := fun_mk (st := s_is_block) l_is_block c_is_block k_is_block
  have b_is_block := F_is_block.binds (ps := ["tree", "thing"]) fun _ _ _ _ _ _ us hl => match us, hl with | [_, _], _ => rfl
  have C_is_block := Cal.mk (PySem.W.mg_of X G a_is_block) k_is_block b_is_block
  have F_is_place := fun_mk (st := s_is_place) l_is_place c_is_place k_is_place
  have b_is_place := F_is_place.binds (ps := ["tree", "thing"]) fun _ _ _ _ _ _ us hl => match us, hl with | [_, _], _ => rfl
  have C_is_place := Cal.mk (PySem.W.mg_of X G a_is_place) k_is_place b_is_place
  have F_place_of := fun_mk (st := s_place_of) l_place_of c_place_of k_place_of
  have b_place_of := F_place_of.binds (ps := ["tree", "block"]) fun _ _ _ _ _ _ us hl => match us, hl with | [_, _], _ => rfl
  have C_place_of := Cal.mk (PySem.W.mg_of X G a_place_of) k_place_of b_place_of
  have F_parents := fun_mk (st := s_parents) l_parents c_parents k_parents
  have b_parents := F_parents.binds (ps := ["tree", "block"]) fun _ _ _ _ _ _ us hl => match us, hl with | [_, _], _ => rfl
  have C_parents := Cal.mk (PySem.W.mg_of X G a_parents) k_parents b_parents
  have F_beneath := fun_mk (st := s_beneath) l_beneath c_beneath k_beneath
  have b_beneath := F_beneath.binds (ps := ["tree", "place"]) fun _ _ _ _ _ _ us hl => match us, hl with | [_, _], _ => rfl
  have C_beneath := Cal.mk (PySem.W.mg_of X G a_beneath) k_beneath b_beneath
  have F_moved := fun_mk (st := s_moved) l_moved c_moved k_moved
  have b_moved := F_moved.binds (ps := ["tree", "block", "place"]) fun _ _ _ _ _ _ us hl => match us, hl with | [_, _, _], _ => rfl
  have C_moved := Cal.mk (PySem.W.mg_of X G a_moved) k_moved b_moved
  have F_Words___init__ := fun_mk (st := s_Words___init__) l_Words___init__ c_Words___init__ k_Words___init__
  have b_Words___init__ := F_Words___init__.binds (ps := ["self", "blocks", "ups", "lists"]) fun _ _ _ _ _ _ us hl => match us, hl with | [_, _, _, _], _ => rfl
  have C_Words___init__ := CalM.mk k_Words___init__ b_Words___init__
  have F__is_tuple_of := fun_mk (st := s__is_tuple_of) l__is_tuple_of c__is_tuple_of k__is_tuple_of
  have b__is_tuple_of := F__is_tuple_of.binds (ps := ["many", "thing"]) fun _ _ _ _ _ _ us hl => match us, hl with | [_, _], _ => rfl
  have C__is_tuple_of := Cal.mk (PySem.W.mg_of X G a__is_tuple_of) k__is_tuple_of b__is_tuple_of
  have F__is_up := fun_mk (st := s__is_up) l__is_up c__is_up k__is_up
  have b__is_up := F__is_up.binds (ps := ["blocks", "block", "thing"]) fun _ _ _ _ _ _ us hl => match us, hl with | [_, _, _], _ => rfl
  have C__is_up := Cal.mk (PySem.W.mg_of X G a__is_up) k__is_up b__is_up
  have F__is_listing := fun_mk (st := s__is_listing) l__is_listing c__is_listing k__is_listing
  have b__is_listing := F__is_listing.binds (ps := ["place", "block", "thing"]) fun _ _ _ _ _ _ us hl => match us, hl with | [_, _, _], _ => rfl
  have C__is_listing := Cal.mk (PySem.W.mg_of X G a__is_listing) k__is_listing b__is_listing
  have F_History___init__ := fun_mk (st := s_History___init__) l_History___init__ c_History___init__ k_History___init__
  have b_History___init__ := F_History___init__.binds (ps := ["self", "tree", "moves"]) fun _ _ _ _ _ _ us hl => match us, hl with | [_, _, _], _ => rfl
  have C_History___init__ := CalM.mk k_History___init__ b_History___init__
  have F_had := fun_mk (st := s_had) l_had c_had k_had
  have b_had := F_had.binds (ps := ["history"]) fun _ _ _ _ _ _ us hl => match us, hl with | [_], _ => rfl
  have C_had := Cal.mk (PySem.W.mg_of X G a_had) k_had b_had
  have F__ties_of := fun_mk (st := s__ties_of) l__ties_of c__ties_of k__ties_of
  have b__ties_of := F__ties_of.binds (ps := ["hung"]) fun _ _ _ _ _ _ us hl => match us, hl with | [_], _ => rfl
  have C__ties_of := Cal.mk (PySem.W.mg_of X G a__ties_of) k__ties_of b__ties_of
  have F_can_stand := fun_mk (st := s_can_stand) l_can_stand c_can_stand k_can_stand
  have b_can_stand := F_can_stand.binds (ps := ["history", "words"]) fun _ _ _ _ _ _ us hl => match us, hl with | [_, _], _ => rfl
  have C_can_stand := Cal.mk (PySem.W.mg_of X G a_can_stand) k_can_stand b_can_stand
  have F__can_be := fun_mk (st := s__can_be) l__can_be c__can_be k__can_be
  have b__can_be := F__can_be.binds (ps := ["words", "block", "places"]) fun _ _ _ _ _ _ us hl => match us, hl with | [_, _, _], _ => rfl
  have C__can_be := Cal.mk (PySem.W.mg_of X G a__can_be) k__can_be b__can_be
  have F_many_pictures := fun_mk (st := s_many_pictures) l_many_pictures c_many_pictures k_many_pictures
  have b_many_pictures := F_many_pictures.binds (ps := ["history"]) fun _ _ _ _ _ _ us hl => match us, hl with | [_], _ => rfl
  have C_many_pictures := Cal.mk (PySem.W.mg_of X G a_many_pictures) k_many_pictures b_many_pictures
  have F__law_hand := fun_mk (st := s__law_hand) l__law_hand c__law_hand k__law_hand
  have b__law_hand := F__law_hand.binds (ps := ["_law_script"]) fun _ _ _ _ _ _ us hl => match us, hl with | [_], _ => rfl
  have C__law_hand := Cal.mk (PySem.W.mg_of X G a__law_hand) k__law_hand b__law_hand
  have F__law_draw := fun_mk (st := s__law_draw) l__law_draw c__law_draw k__law_draw
  have b__law_draw := F__law_draw.binds (ps := ["_law_hand_here", "_law_many"]) fun _ _ _ _ _ _ us hl => match us, hl with | [_, _], _ => rfl
  have C__law_draw := Cal.mk (PySem.W.mg_of X G a__law_draw) k__law_draw b__law_draw
  have F__law_tree := fun_mk (st := s__law_tree) l__law_tree c__law_tree k__law_tree
  have b__law_tree := F__law_tree.binds (ps := ["_law_hand_here", "_law_many"]) fun _ _ _ _ _ _ us hl => match us, hl with | [_, _], _ => rfl
  have C__law_tree := Cal.mk (PySem.W.mg_of X G a__law_tree) k__law_tree b__law_tree
  have F__law_row := fun_mk (st := s__law_row) l__law_row c__law_row k__law_row
  have b__law_row := F__law_row.binds (ps := ["_law_hung", "_law_place"]) fun _ _ _ _ _ _ us hl => match us, hl with | [_, _], _ => rfl
  have C__law_row := Cal.mk (PySem.W.mg_of X G a__law_row) k__law_row b__law_row
  have F__law_beneath := fun_mk (st := s__law_beneath) l__law_beneath c__law_beneath k__law_beneath
  have b__law_beneath := F__law_beneath.binds (ps := ["_law_hung", "_law_place"]) fun _ _ _ _ _ _ us hl => match us, hl with | [_, _], _ => rfl
  have C__law_beneath := Cal.mk (PySem.W.mg_of X G a__law_beneath) k__law_beneath b__law_beneath
  have F__law_put := fun_mk (st := s__law_put) l__law_put c__law_put k__law_put
  have b__law_put := F__law_put.binds (ps := ["_law_hung", "_law_block", "_law_place"]) fun _ _ _ _ _ _ us hl => match us, hl with | [_, _, _], _ => rfl
  have C__law_put := Cal.mk (PySem.W.mg_of X G a__law_put) k__law_put b__law_put
  have F__law_moves := fun_mk (st := s__law_moves) l__law_moves c__law_moves k__law_moves
  have b__law_moves := F__law_moves.binds (ps := ["_law_hand_here", "_law_hung", "_law_many"]) fun _ _ _ _ _ _ us hl => match us, hl with | [_, _, _], _ => rfl
  have C__law_moves := Cal.mk (PySem.W.mg_of X G a__law_moves) k__law_moves b__law_moves
  have F__law_had := fun_mk (st := s__law_had) l__law_had c__law_had k__law_had
  have b__law_had := F__law_had.binds (ps := ["_law_hung", "_law_moves_here"]) fun _ _ _ _ _ _ us hl => match us, hl with | [_, _], _ => rfl
  have C__law_had := Cal.mk (PySem.W.mg_of X G a__law_had) k__law_had b__law_had
  have F__law_worths := fun_mk (st := s__law_worths) l__law_worths c__law_worths k__law_worths
  have b__law_worths := F__law_worths.binds (ps := ["_law_known", "_law_many"]) fun _ _ _ _ _ _ us hl => match us, hl with | [_, _], _ => rfl
  have C__law_worths := Cal.mk (PySem.W.mg_of X G a__law_worths) k__law_worths b__law_worths
  have F__law_words := fun_mk (st := s__law_words) l__law_words c__law_words k__law_words
  have b__law_words := F__law_words.binds (ps := ["_law_hand_here", "_law_known", "_law_many", "_law_lost"]) fun _ _ _ _ _ _ us hl => match us, hl with | [_, _, _, _], _ => rfl
  have C__law_words := Cal.mk (PySem.W.mg_of X G a__law_words) k__law_words b__law_words
  have F__law_stands := fun_mk (st := s__law_stands) l__law_stands c__law_stands k__law_stands
  have b__law_stands := F__law_stands.binds (ps := ["_law_due", "_law_many", "_law_ups", "_law_lists"]) fun _ _ _ _ _ _ us hl => match us, hl with | [_, _, _, _], _ => rfl
  have C__law_stands := Cal.mk (PySem.W.mg_of X G a__law_stands) k__law_stands b__law_stands
  have F__law_turned := fun_mk (st := s__law_turned) l__law_turned c__law_turned k__law_turned
  have b__law_turned := F__law_turned.binds (ps := ["_law_hand_here", "_law_many", "_law_ups", "_law_lists"]) fun _ _ _ _ _ _ us hl => match us, hl with | [_, _, _, _], _ => rfl
  have C__law_turned := Cal.mk (PySem.W.mg_of X G a__law_turned) k__law_turned b__law_turned
  have F__law_all := fun_mk (st := s__law_all) l__law_all c__law_all k__law_all
  have b__law_all := F__law_all.binds (ps := ["_law_due", "_law_many"]) fun _ _ _ _ _ _ us hl => match us, hl with | [_, _], _ => rfl
  have C__law_all := Cal.mk (PySem.W.mg_of X G a__law_all) k__law_all b__law_all
  have F_law := fun_mk (st := s_law) l_law c_law k_law
  have b_law := F_law.binds (ps := ["_law_script"]) fun _ _ _ _ _ _ us hl => match us, hl with | [_], _ => rfl
  have C_law := Cal.mk (PySem.W.mg_of X G a_law) k_law b_law
  have B : Bl ⟨c_VoteError, c_BadTree, c_NoBlock, c_NoPlace, c_Beneath, c_OtherBlocks, c_BadWords, c_BadHistory, c_Tree, c_Words, c_History, t_MOST_BLOCKS, t_MOST_MOVES⟩ mg := ⟨PySem.W.mg_none_of X G z_ValueError, PySem.W.mg_none_of X G z_abs, PySem.W.mg_none_of X G z_all, PySem.W.mg_none_of X G z_bool, PySem.W.mg_none_of X G z_dict, PySem.W.mg_none_of X G z_enumerate, PySem.W.mg_none_of X G z_int, PySem.W.mg_none_of X G z_isinstance, PySem.W.mg_none_of X G z_len, PySem.W.mg_none_of X G z_list, PySem.W.mg_none_of X G z_min, PySem.W.mg_none_of X G z_range, PySem.W.mg_none_of X G z_set, PySem.W.mg_none_of X G z_sorted, PySem.W.mg_none_of X G z_str, PySem.W.mg_none_of X G z_super, PySem.W.mg_none_of X G z_tuple, PySem.W.mg_of X G n_VoteError, PySem.W.mg_of X G n_BadTree, PySem.W.mg_of X G n_NoBlock, PySem.W.mg_of X G n_NoPlace, PySem.W.mg_of X G n_Beneath, PySem.W.mg_of X G n_OtherBlocks, PySem.W.mg_of X G n_BadWords, PySem.W.mg_of X G n_BadHistory, PySem.W.mg_of X G n_Tree, PySem.W.mg_of X G n_Words, PySem.W.mg_of X G n_History, PySem.W.mg_of X G n_MOST_BLOCKS, PySem.W.mg_of X G n_MOST_MOVES⟩
  have hcTree : Cls K c_Tree := ⟨pgTree, hdTree, poTree, saTree⟩
  have hMTree : Mk K c_Tree f_Tree___init__ := ⟨mkTree, a_Tree___init__, i_Tree___init__, kcTree⟩
  have hITree : IsC K c_Tree := ⟨hcTree, haTree, spO, tkO, hmTree, if_pos (beq_self_eq_true _), kit_ref rfl icTree tyTree (sub_tuple K c_Tree)⟩
  have hcWords : Cls K c_Words := ⟨pgWords, hdWords, poWords, saWords⟩
  have hMWords : Mk K c_Words f_Words___init__ := ⟨mkWords, a_Words___init__, i_Words___init__, kcWords⟩
  have hIWords : IsC K c_Words := ⟨hcWords, haWords, spO, tkO, hmWords, if_pos (beq_self_eq_true _), kit_ref rfl icWords tyWords (sub_tuple K c_Words)⟩
  have hcHistory : Cls K c_History := ⟨pgHistory, hdHistory, poHistory, saHistory⟩
  have hMHistory : Mk K c_History f_History___init__ := ⟨mkHistory, a_History___init__, i_History___init__, kcHistory⟩
  have hXBadTree : OexC K c_BadTree := ⟨⟨nmBadTree, qBadTree, NBadTree, bsBadTree, bmBadTree, snBadTree, subBadTree, abBadTree, colBadTree, ddBadTree, m0BadTree, m1BadTree, m2BadTree, m3BadTree, m5BadTree, xLBadTree, rvBadTree⟩, saEBadTree, exEBadTree, tyEBadTree, kcEBadTree⟩
  have hEBadTree : ExcF K c_BadTree f_BadTree___init__ "part" := ⟨hXBadTree, a_BadTree___init__, tiEBadTree, noEBadTree⟩
  have hXBadHistory : OexC K c_BadHistory := ⟨⟨nmBadHistory, qBadHistory, NBadHistory, bsBadHistory, bmBadHistory, snBadHistory, subBadHistory, abBadHistory, colBadHistory, ddBadHistory, m0BadHistory, m1BadHistory, m2BadHistory, m3BadHistory, m5BadHistory, xLBadHistory, rvBadHistory⟩, saEBadHistory, exEBadHistory, tyEBadHistory, kcEBadHistory⟩
  have hEBadHistory : ExcF K c_BadHistory f_BadHistory___init__ "part" := ⟨hXBadHistory, a_BadHistory___init__, tiEBadHistory, noEBadHistory⟩
  have hUNoBlock : SupC P K c_NoBlock f_UNoBlock := ⟨⟨⟨nmUNoBlock, qUNoBlock, NUNoBlock, bsUNoBlock, bmUNoBlock, snUNoBlock, subUNoBlock, abUNoBlock, colUNoBlock, ddUNoBlock, u0NoBlock, u1NoBlock, u2NoBlock, u3NoBlock, u5NoBlock, xUNoBlock, rvUNoBlock⟩, saUNoBlock, exUNoBlock, tyUNoBlock, kcUNoBlock⟩, iUNoBlock, tiUNoBlock, ⟨ocUNoBlock, odUNoBlock, kVUNoBlock, docUNoBlock, pmUNoBlock, anUNoBlock, cdUNoBlock, ctUNoBlock, slUNoBlock, ccUNoBlock, qqUNoBlock, eNoBlock, p0NoBlock, p1NoBlock, p2NoBlock, p3NoBlock, p4NoBlock, lUNoBlock, cUNoBlock, ⟨clUNoBlock, cldUNoBlock, cslUNoBlock, ceUNoBlock⟩, cclUNoBlock, cddUNoBlock, vsUNoBlock, ccsUNoBlock, fileUNoBlock, tfUNoBlock, coUNoBlock, vsU2NoBlock, fiUNoBlock, evUNoBlock⟩, upUNoBlock, meUNoBlock, veUNoBlock, opU, tpU⟩
  have hUNoPlace : SupC P K c_NoPlace f_UNoPlace := ⟨⟨⟨nmUNoPlace, qUNoPlace, NUNoPlace, bsUNoPlace, bmUNoPlace, snUNoPlace, subUNoPlace, abUNoPlace, colUNoPlace, ddUNoPlace, u0NoPlace, u1NoPlace, u2NoPlace, u3NoPlace, u5NoPlace, xUNoPlace, rvUNoPlace⟩, saUNoPlace, exUNoPlace, tyUNoPlace, kcUNoPlace⟩, iUNoPlace, tiUNoPlace, ⟨ocUNoPlace, odUNoPlace, kVUNoPlace, docUNoPlace, pmUNoPlace, anUNoPlace, cdUNoPlace, ctUNoPlace, slUNoPlace, ccUNoPlace, qqUNoPlace, eNoPlace, p0NoPlace, p1NoPlace, p2NoPlace, p3NoPlace, p4NoPlace, lUNoPlace, cUNoPlace, ⟨clUNoPlace, cldUNoPlace, cslUNoPlace, ceUNoPlace⟩, cclUNoPlace, cddUNoPlace, vsUNoPlace, ccsUNoPlace, fileUNoPlace, tfUNoPlace, coUNoPlace, vsU2NoPlace, fiUNoPlace, evUNoPlace⟩, upUNoPlace, meUNoPlace, veUNoPlace, opU, tpU⟩
  have hUBeneath : SupC P K c_Beneath f_UBeneath := ⟨⟨⟨nmUBeneath, qUBeneath, NUBeneath, bsUBeneath, bmUBeneath, snUBeneath, subUBeneath, abUBeneath, colUBeneath, ddUBeneath, u0Beneath, u1Beneath, u2Beneath, u3Beneath, u5Beneath, xUBeneath, rvUBeneath⟩, saUBeneath, exUBeneath, tyUBeneath, kcUBeneath⟩, iUBeneath, tiUBeneath, ⟨ocUBeneath, odUBeneath, kVUBeneath, docUBeneath, pmUBeneath, anUBeneath, cdUBeneath, ctUBeneath, slUBeneath, ccUBeneath, qqUBeneath, eBeneath, p0Beneath, p1Beneath, p2Beneath, p3Beneath, p4Beneath, lUBeneath, cUBeneath, ⟨clUBeneath, cldUBeneath, cslUBeneath, ceUBeneath⟩, cclUBeneath, cddUBeneath, vsUBeneath, ccsUBeneath, fileUBeneath, tfUBeneath, coUBeneath, vsU2Beneath, fiUBeneath, evUBeneath⟩, upUBeneath, meUBeneath, veUBeneath, opU, tpU⟩
  have hS : InsK K ⟨c_VoteError, c_BadTree, c_NoBlock, c_NoPlace, c_Beneath, c_OtherBlocks, c_BadWords, c_BadHistory, c_Tree, c_Words, c_History, t_MOST_BLOCKS, t_MOST_MOVES⟩ := ⟨hITree, fun T h => by
    rcases h with rfl | rfl | rfl | rfl
    · exact kit_typ (by decide +kernel) swint
    · exact kit_typ (by decide +kernel) swbool
    · exact kit_typ (by decide +kernel) swtuple
    · exact kit_typ (by decide +kernel) swlist⟩
  have hT : TyAp K ⟨c_VoteError, c_BadTree, c_NoBlock, c_NoPlace, c_Beneath, c_OtherBlocks, c_BadWords, c_BadHistory, c_Tree, c_Words, c_History, t_MOST_BLOCKS, t_MOST_MOVES⟩ := ⟨fun T h => by
    rcases h with rfl | rfl | rfl | rfl | rfl | rfl | rfl
    · exact kit_ref rfl icTree tyTree (sub_bt K c_Tree (by decide +kernel : PySem.fastBuiltinMro "NoneType" = some [.type "NoneType", .type "object"]) rfl)
    · exact kit_ref rfl icTree tyTree (sub_bt K c_Tree (by decide +kernel : PySem.fastBuiltinMro "bool" = some [.type "bool", .type "int", .type "object"]) rfl)
    · exact kit_ref rfl icTree tyTree (sub_bt K c_Tree (by decide +kernel : PySem.fastBuiltinMro "int" = some [.type "int", .type "object"]) rfl)
    · exact kit_ref rfl icTree tyTree (sub_bt K c_Tree (by decide +kernel : PySem.fastBuiltinMro "str" = some [.type "str", .type "object"]) rfl)
    · exact kit_ref rfl icTree tyTree (sub_bt K c_Tree (by decide +kernel : PySem.fastBuiltinMro "list" = some [.type "list", .type "object"]) rfl)
    · exact kit_ref rfl icTree tyTree (sub_bt K c_Tree (by decide +kernel : PySem.fastBuiltinMro "tuple" = some [.type "tuple", .type "object"]) rfl)
    · exact kit_ref rfl icTree tyTree (sub_bt K c_Tree (by decide +kernel : PySem.fastBuiltinMro "dict" = some [.type "dict", .type "object"]) rfl)⟩
  have hMX : MvX K ⟨c_VoteError, c_BadTree, c_NoBlock, c_NoPlace, c_Beneath, c_OtherBlocks, c_BadWords, c_BadHistory, c_Tree, c_Words, c_History, t_MOST_BLOCKS, t_MOST_MOVES⟩ := ⟨fun c h => by
    rcases h with rfl | rfl | rfl
    · exact exm3 (PySem.W.exm_ref exUNoBlock hdUNoBlock tyUNoBlock suNoBlock_NoBlock) (PySem.W.exm_ref exUNoPlace hdUNoPlace tyUNoPlace suNoBlock_NoPlace) (PySem.W.exm_ref exUBeneath hdUBeneath tyUBeneath suNoBlock_Beneath) rfl
    · exact exm3 (PySem.W.exm_ref exUNoBlock hdUNoBlock tyUNoBlock suNoPlace_NoBlock) (PySem.W.exm_ref exUNoPlace hdUNoPlace tyUNoPlace suNoPlace_NoPlace) (PySem.W.exm_ref exUBeneath hdUBeneath tyUBeneath suNoPlace_Beneath) rfl
    · exact exm3 (PySem.W.exm_ref exUNoBlock hdUNoBlock tyUNoBlock suBeneath_NoBlock) (PySem.W.exm_ref exUNoPlace hdUNoPlace tyUNoPlace suBeneath_NoPlace) (PySem.W.exm_ref exUBeneath hdUBeneath tyUBeneath suBeneath_Beneath) rfl⟩
  have hHC : HisC K ⟨c_VoteError, c_BadTree, c_NoBlock, c_NoPlace, c_Beneath, c_OtherBlocks, c_BadWords, c_BadHistory, c_Tree, c_Words, c_History, t_MOST_BLOCKS, t_MOST_MOVES⟩ := ⟨hcHistory, noHistory_tree, noHistory_moves⟩
  have hW : WCls K ⟨c_VoteError, c_BadTree, c_NoBlock, c_NoPlace, c_Beneath, c_OtherBlocks, c_BadWords, c_BadHistory, c_Tree, c_Words, c_History, t_MOST_BLOCKS, t_MOST_MOVES⟩ := ⟨hcWords, noWords_blocks, noWords_ups, noWords_lists⟩
  refine ⟨PySem.W.fnOf "law" "law" (defArgs s_law) (defBody s_law) (defScope s_law) .none kV_law dc_law pm_law an_law cd_law ct_law, fun s v => .of_eq rfl, fun base _ _ => ?_⟩
  have G_draw := ok_draw (P := P) (w := w) (base := base) F__law_draw B
  have G_hand := ok_hand (P := P) (w := w) (base := base) F__law_hand B
  have G_within := ok_within (P := P) (w := w) (base := base) F_is_within B
  have G_withinK := ok_withinK (P := P) (w := w) (base := base) F_is_within B hS
  have G_comes := ok_comes (P := P) (w := w) (base := base) F__comes_to_head B
  have G_bad := ok_bad (mg := mg) (P := P) (w := w) (base := base) (Z := ⟨c_VoteError, c_BadTree, c_NoBlock, c_NoPlace, c_Beneath, c_OtherBlocks, c_BadWords, c_BadHistory, c_Tree, c_Words, c_History, t_MOST_BLOCKS, t_MOST_MOVES⟩) F_BadTree___init__ hEBadTree
  have G_tree := ok_tree F_Tree___init__ B hcTree noTree_hung C_is_within G_within C__comes_to_head G_comes C_BadTree___init__ G_bad hEBadTree
  have G_isb := ok_isBlock F_is_block B hcTree noTree_hung C_is_within G_within
  have G_isp := ok_isPlace F_is_place B hcTree noTree_hung C_is_within G_within
  have G_place := ok_place F_place_of B hcTree noTree_hung C_is_block G_isb
  have G_par := ok_parents F_parents B C_place_of G_place
  have G_ben := ok_beneath F_beneath B hcTree noTree_hung C_is_place G_isp C_parents G_par
  have G_isbK := ok_isBlockK F_is_block B hcTree noTree_hung C_is_within G_withinK
  have G_ispK := ok_isPlaceK F_is_place B hcTree noTree_hung C_is_within G_withinK
  have G_moved := ok_movedK F_moved B hcTree noTree_hung hUNoBlock hUNoPlace hUBeneath C_is_block G_isbK C_is_place G_ispK C_beneath G_ben C_Tree___init__ G_tree hMTree
  have G_pair := ok_pairK (P := P) (w := w) (base := base) F_is_pair B hS
  have G_badH := ok_badH (mg := mg) (P := P) (w := w) (base := base) (Z := ⟨c_VoteError, c_BadTree, c_NoBlock, c_NoPlace, c_Beneath, c_OtherBlocks, c_BadWords, c_BadHistory, c_Tree, c_Words, c_History, t_MOST_BLOCKS, t_MOST_MOVES⟩) F_BadHistory___init__ hEBadHistory
  have G_badHot := ok_badHot (mg := mg) (P := P) (w := w) (base := base) (Z := ⟨c_VoteError, c_BadTree, c_NoBlock, c_NoPlace, c_Beneath, c_OtherBlocks, c_BadWords, c_BadHistory, c_Tree, c_Words, c_History, t_MOST_BLOCKS, t_MOST_MOVES⟩) F_BadHistory___init__ hEBadHistory
  have G_hist := ok_hist F_History___init__ B hS hT hMX hHC C_is_pair G_pair C_moved G_moved C_BadHistory___init__ G_badH G_badHot hEBadHistory
  have G_isTup := ok_isTup (P := P) (w := w) (base := base) F__is_tuple_of B
  have G_isUp := ok_isUp F__is_up B C_is_within G_within
  have G_isLst := ok_isLst (P := P) (w := w) (base := base) F__is_listing B
  have G_words := ok_words F_Words___init__ B hW C_is_within G_within C__is_tuple_of G_isTup C__is_up G_isUp C__is_listing G_isLst
  have G_wtree := ok_wtree F__law_tree B C__law_draw G_draw
  have G_row := ok_row (P := P) (w := w) (base := base) F__law_row B
  have G_inner := ok_inner F__law_beneath B C__law_row G_row
  have G_put := ok_putT (P := P) (w := w) (base := base) F__law_put B
  have G_movs := ok_movs F__law_moves B C__law_draw G_draw C__law_beneath G_inner C__law_put G_put
  have G_ties := ok_ties (P := P) (w := w) (base := base) F__ties_of B
  have G_had := ok_had F_had B hHC hcTree noTree_hung C__ties_of G_ties
  have G_lhad := ok_lhad (P := P) (w := w) (base := base) F__law_had B
  have G_canBe := ok_canBe (P := P) (w := w) (base := base) F__can_be B hW
  have G_stand := ok_stand F_can_stand B hHC hcTree noTree_hung hW hIWords C_had G_had C__can_be G_canBe
  have G_many := ok_many F_many_pictures B C_had G_had
  have G_worths := ok_worths (P := P) (w := w) (base := base) F__law_worths B
  have G_allN := ok_allN F__law_all B C__law_worths G_worths
  have G_lstand := ok_lstand F__law_stands B C__law_worths G_worths
  have G_lwords := ok_lwords F__law_words B C__law_worths G_worths C__law_draw G_draw
  have G_turned := ok_turned F__law_turned B C__law_draw G_draw
  exact ok_law35 F_law B C__law_hand G_hand C__law_draw G_draw C__law_tree G_wtree C__law_moves G_movs C__law_had G_lhad C__law_words G_lwords C__law_stands G_lstand C__law_turned G_turned C__law_all G_allN C_had G_had C_can_stand G_stand C_many_pictures G_many C_Words___init__ G_words hMWords C_History___init__ G_hist hMHistory C_Tree___init__ G_tree hMTree
end Fv
open PySem PySem.W PyProof.Rows in
set_option maxRecDepth 100000 in
set_option maxHeartbeats 0 in
theorem PySem.Challenge.cw_foldervotes_k35_whole_places_had_and_pic_holds : PySem.Challenge.rw_foldervotes_k35_whole_places_had_and_pic.Holds := by
  w_on; o_law; k_headL; (case hw => w_witness2)
  k_fill
  refine L2.walk_of (l := PySem.Challenge.rw_foldervotes_k35_whole_places_had_and_pic) (n := 63) (k := 10) (x := "_law_script") (CX := fun _ => L2.CX0) (sp := fun w => Fv.spLaw _) rfl (by decide) rfl ⟨rfl, by decide, by decide⟩ (fun w h Y => PySem.W.kIn_of Y) ?F (fun _ _ a ns hl _ hS => ⟨a, ns, rfl, hS, hl, fun _ => rfl⟩) (fun _ _ _ _ _ h => h)
  case F =>
   as_aux_lemma =>
    intro w mg fa h KX G hmg
    refine' Fv.all_mk KX G hmg ?n_VoteError ?n_BadTree ?n_NoBlock ?n_NoPlace ?n_Beneath ?n_OtherBlocks ?n_BadWords ?n_BadHistory ?n_Tree ?n_Words ?n_History ?n_MOST_BLOCKS ?n_MOST_MOVES ?z_ValueError ?z_abs ?z_all ?z_bool ?z_dict ?z_enumerate ?z_int ?z_isinstance ?z_len ?z_list ?z_min ?z_range ?z_set ?z_sorted ?z_str ?z_super ?z_tuple ?a_BadTree___init__ ?i_BadTree___init__ ?l_BadTree___init__ ?c_BadTree___init__ ?k_BadTree___init__ ?a_BadHistory___init__ ?i_BadHistory___init__ ?l_BadHistory___init__ ?c_BadHistory___init__ ?k_BadHistory___init__ ?a_is_within ?l_is_within ?c_is_within ?k_is_within ?a_is_pair ?l_is_pair ?c_is_pair ?k_is_pair ?a_Tree___init__ ?i_Tree___init__ ?l_Tree___init__ ?c_Tree___init__ ?k_Tree___init__ ?a__comes_to_head ?l__comes_to_head ?c__comes_to_head ?k__comes_to_head ?a_is_block ?l_is_block ?c_is_block ?k_is_block ?a_is_place ?l_is_place ?c_is_place ?k_is_place ?a_place_of ?l_place_of ?c_place_of ?k_place_of ?a_parents ?l_parents ?c_parents ?k_parents ?a_beneath ?l_beneath ?c_beneath ?k_beneath ?a_moved ?l_moved ?c_moved ?k_moved ?a_Words___init__ ?i_Words___init__ ?l_Words___init__ ?c_Words___init__ ?k_Words___init__ ?a__is_tuple_of ?l__is_tuple_of ?c__is_tuple_of ?k__is_tuple_of ?a__is_up ?l__is_up ?c__is_up ?k__is_up ?a__is_listing ?l__is_listing ?c__is_listing ?k__is_listing ?a_History___init__ ?i_History___init__ ?l_History___init__ ?c_History___init__ ?k_History___init__ ?a_had ?l_had ?c_had ?k_had ?a__ties_of ?l__ties_of ?c__ties_of ?k__ties_of ?a_can_stand ?l_can_stand ?c_can_stand ?k_can_stand ?a__can_be ?l__can_be ?c__can_be ?k__can_be ?a_many_pictures ?l_many_pictures ?c_many_pictures ?k_many_pictures ?a__law_hand ?l__law_hand ?c__law_hand ?k__law_hand ?a__law_draw ?l__law_draw ?c__law_draw ?k__law_draw ?a__law_tree ?l__law_tree ?c__law_tree ?k__law_tree ?a__law_row ?l__law_row ?c__law_row ?k__law_row ?a__law_beneath ?l__law_beneath ?c__law_beneath ?k__law_beneath ?a__law_put ?l__law_put ?c__law_put ?k__law_put ?a__law_moves ?l__law_moves ?c__law_moves ?k__law_moves ?a__law_had ?l__law_had ?c__law_had ?k__law_had ?a__law_worths ?l__law_worths ?c__law_worths ?k__law_worths ?a__law_words ?l__law_words ?c__law_words ?k__law_words ?a__law_stands ?l__law_stands ?c__law_stands ?k__law_stands ?a__law_turned ?l__law_turned ?c__law_turned ?k__law_turned ?a__law_all ?l__law_all ?c__law_all ?k__law_all ?a_law ?l_law ?c_law ?k_law ?pgTree ?hdTree ?poTree ?saTree ?mkTree ?kcTree ?noTree_hung ?haTree ?hmTree ?icTree ?tyTree ?spO ?tkO ?pgWords ?hdWords ?poWords ?saWords ?mkWords ?kcWords ?noWords_blocks ?noWords_ups ?noWords_lists ?haWords ?hmWords ?icWords ?tyWords ?pgHistory ?hdHistory ?poHistory ?saHistory ?mkHistory ?kcHistory ?noHistory_tree ?noHistory_moves ?xLBadTree ?rvBadTree ?saEBadTree ?exEBadTree ?tyEBadTree ?kcEBadTree ?tiEBadTree ?noEBadTree ?xLBadHistory ?rvBadHistory ?saEBadHistory ?exEBadHistory ?tyEBadHistory ?kcEBadHistory ?tiEBadHistory ?noEBadHistory ?xUNoBlock ?rvUNoBlock ?saUNoBlock ?exUNoBlock ?tyUNoBlock ?kcUNoBlock ?iUNoBlock ?tiUNoBlock ?lUNoBlock ?cUNoBlock ?ceUNoBlock ?coUNoBlock ?vsU2NoBlock ?fiUNoBlock ?evUNoBlock ?upUNoBlock ?meUNoBlock ?veUNoBlock ?opU ?tpU ?xUNoPlace ?rvUNoPlace ?saUNoPlace ?exUNoPlace ?tyUNoPlace ?kcUNoPlace ?iUNoPlace ?tiUNoPlace ?lUNoPlace ?cUNoPlace ?ceUNoPlace ?coUNoPlace ?vsU2NoPlace ?fiUNoPlace ?evUNoPlace ?upUNoPlace ?meUNoPlace ?veUNoPlace ?xUBeneath ?rvUBeneath ?saUBeneath ?exUBeneath ?tyUBeneath ?kcUBeneath ?iUBeneath ?tiUBeneath ?lUBeneath ?cUBeneath ?ceUBeneath ?coUBeneath ?vsU2Beneath ?fiUBeneath ?evUBeneath ?upUBeneath ?meUBeneath ?veUBeneath ?swint ?swbool ?swtuple ?swlist ?hdUNoBlock ?hdUNoPlace ?hdUBeneath ?suNoBlock_NoBlock ?suNoBlock_NoPlace ?suNoBlock_Beneath ?suNoPlace_NoBlock ?suNoPlace_NoPlace ?suNoPlace_Beneath ?suBeneath_NoBlock ?suBeneath_NoPlace ?suBeneath_Beneath
    (case n_VoteError => k_is)
    (case n_BadTree => k_is)
    (case n_NoBlock => k_is)
    (case n_NoPlace => k_is)
    (case n_Beneath => k_is)
    (case n_OtherBlocks => k_is)
    (case n_BadWords => k_is)
    (case n_BadHistory => k_is)
    (case n_Tree => k_is)
    (case n_Words => k_is)
    (case n_History => k_is)
    (case n_MOST_BLOCKS => k_is)
    (case n_MOST_MOVES => k_is)
    (case z_ValueError => k_is)
    (case z_abs => k_is)
    (case z_all => k_is)
    (case z_bool => k_is)
    (case z_dict => k_is)
    (case z_enumerate => k_is)
    (case z_int => k_is)
    (case z_isinstance => k_is)
    (case z_len => k_is)
    (case z_list => k_is)
    (case z_min => k_is)
    (case z_range => k_is)
    (case z_set => k_is)
    (case z_sorted => k_is)
    (case z_str => k_is)
    (case z_super => k_is)
    (case z_tuple => k_is)
    (case a_BadTree___init__ => k_is)
    (case i_BadTree___init__ => k_is)
    (case l_BadTree___init__ => k_is)
    (case c_BadTree___init__ => k_is)
    (case k_BadTree___init__ => k_is)
    (case a_BadHistory___init__ => k_is)
    (case i_BadHistory___init__ => k_is)
    (case l_BadHistory___init__ => k_is)
    (case c_BadHistory___init__ => k_is)
    (case k_BadHistory___init__ => k_is)
    (case a_is_within => k_is)
    (case l_is_within => k_is)
    (case c_is_within => k_is)
    (case k_is_within => k_is)
    (case a_is_pair => k_is)
    (case l_is_pair => k_is)
    (case c_is_pair => k_is)
    (case k_is_pair => k_is)
    (case a_Tree___init__ => k_is)
    (case i_Tree___init__ => k_is)
    (case l_Tree___init__ => k_is)
    (case c_Tree___init__ => k_is)
    (case k_Tree___init__ => k_is)
    (case a__comes_to_head => k_is)
    (case l__comes_to_head => k_is)
    (case c__comes_to_head => k_is)
    (case k__comes_to_head => k_is)
    (case a_is_block => k_is)
    (case l_is_block => k_is)
    (case c_is_block => k_is)
    (case k_is_block => k_is)
    (case a_is_place => k_is)
    (case l_is_place => k_is)
    (case c_is_place => k_is)
    (case k_is_place => k_is)
    (case a_place_of => k_is)
    (case l_place_of => k_is)
    (case c_place_of => k_is)
    (case k_place_of => k_is)
    (case a_parents => k_is)
    (case l_parents => k_is)
    (case c_parents => k_is)
    (case k_parents => k_is)
    (case a_beneath => k_is)
    (case l_beneath => k_is)
    (case c_beneath => k_is)
    (case k_beneath => k_is)
    (case a_moved => k_is)
    (case l_moved => k_is)
    (case c_moved => k_is)
    (case k_moved => k_is)
    (case a_Words___init__ => k_is)
    (case i_Words___init__ => k_is)
    (case l_Words___init__ => k_is)
    (case c_Words___init__ => k_is)
    (case k_Words___init__ => k_is)
    (case a__is_tuple_of => k_is)
    (case l__is_tuple_of => k_is)
    (case c__is_tuple_of => k_is)
    (case k__is_tuple_of => k_is)
    (case a__is_up => k_is)
    (case l__is_up => k_is)
    (case c__is_up => k_is)
    (case k__is_up => k_is)
    (case a__is_listing => k_is)
    (case l__is_listing => k_is)
    (case c__is_listing => k_is)
    (case k__is_listing => k_is)
    (case a_History___init__ => k_is)
    (case i_History___init__ => k_is)
    (case l_History___init__ => k_is)
    (case c_History___init__ => k_is)
    (case k_History___init__ => k_is)
    (case a_had => k_is)
    (case l_had => k_is)
    (case c_had => k_is)
    (case k_had => k_is)
    (case a__ties_of => k_is)
    (case l__ties_of => k_is)
    (case c__ties_of => k_is)
    (case k__ties_of => k_is)
    (case a_can_stand => k_is)
    (case l_can_stand => k_is)
    (case c_can_stand => k_is)
    (case k_can_stand => k_is)
    (case a__can_be => k_is)
    (case l__can_be => k_is)
    (case c__can_be => k_is)
    (case k__can_be => k_is)
    (case a_many_pictures => k_is)
    (case l_many_pictures => k_is)
    (case c_many_pictures => k_is)
    (case k_many_pictures => k_is)
    (case a__law_hand => k_is)
    (case l__law_hand => k_is)
    (case c__law_hand => k_is)
    (case k__law_hand => k_is)
    (case a__law_draw => k_is)
    (case l__law_draw => k_is)
    (case c__law_draw => k_is)
    (case k__law_draw => k_is)
    (case a__law_tree => k_is)
    (case l__law_tree => k_is)
    (case c__law_tree => k_is)
    (case k__law_tree => k_is)
    (case a__law_row => k_is)
    (case l__law_row => k_is)
    (case c__law_row => k_is)
    (case k__law_row => k_is)
    (case a__law_beneath => k_is)
    (case l__law_beneath => k_is)
    (case c__law_beneath => k_is)
    (case k__law_beneath => k_is)
    (case a__law_put => k_is)
    (case l__law_put => k_is)
    (case c__law_put => k_is)
    (case k__law_put => k_is)
    (case a__law_moves => k_is)
    (case l__law_moves => k_is)
    (case c__law_moves => k_is)
    (case k__law_moves => k_is)
    (case a__law_had => k_is)
    (case l__law_had => k_is)
    (case c__law_had => k_is)
    (case k__law_had => k_is)
    (case a__law_worths => k_is)
    (case l__law_worths => k_is)
    (case c__law_worths => k_is)
    (case k__law_worths => k_is)
    (case a__law_words => k_is)
    (case l__law_words => k_is)
    (case c__law_words => k_is)
    (case k__law_words => k_is)
    (case a__law_stands => k_is)
    (case l__law_stands => k_is)
    (case c__law_stands => k_is)
    (case k__law_stands => k_is)
    (case a__law_turned => k_is)
    (case l__law_turned => k_is)
    (case c__law_turned => k_is)
    (case k__law_turned => k_is)
    (case a__law_all => k_is)
    (case l__law_all => k_is)
    (case c__law_all => k_is)
    (case k__law_all => k_is)
    (case a_law => k_is)
    (case l_law => k_is)
    (case c_law => k_is)
    (case k_law => k_is)
    (case pgTree => k_is)
    (case hdTree => k_is)
    (case poTree => k_is)
    (case saTree => k_is)
    (case mkTree => k_is)
    (case kcTree => k_is)
    (case noTree_hung => k_is)
    (case haTree => k_is)
    (case hmTree => k_is)
    (case icTree => k_is)
    (case tyTree => k_is)
    (case spO => k_is)
    (case tkO => k_is)
    (case pgWords => k_is)
    (case hdWords => k_is)
    (case poWords => k_is)
    (case saWords => k_is)
    (case mkWords => k_is)
    (case kcWords => k_is)
    (case noWords_blocks => k_is)
    (case noWords_ups => k_is)
    (case noWords_lists => k_is)
    (case haWords => k_is)
    (case hmWords => k_is)
    (case icWords => k_is)
    (case tyWords => k_is)
    (case pgHistory => k_is)
    (case hdHistory => k_is)
    (case poHistory => k_is)
    (case saHistory => k_is)
    (case mkHistory => k_is)
    (case kcHistory => k_is)
    (case noHistory_tree => k_is)
    (case noHistory_moves => k_is)
    (case xLBadTree => k_is)
    (case rvBadTree => decide +kernel)
    (case saEBadTree => k_is)
    (case exEBadTree => k_is)
    (case tyEBadTree => k_is)
    (case kcEBadTree => k_is)
    (case tiEBadTree => k_is)
    (case noEBadTree => k_is)
    (case xLBadHistory => k_is)
    (case rvBadHistory => decide +kernel)
    (case saEBadHistory => k_is)
    (case exEBadHistory => k_is)
    (case tyEBadHistory => k_is)
    (case kcEBadHistory => k_is)
    (case tiEBadHistory => k_is)
    (case noEBadHistory => k_is)
    (case xUNoBlock => k_is)
    (case rvUNoBlock => decide +kernel)
    (case saUNoBlock => k_is)
    (case exUNoBlock => k_is)
    (case tyUNoBlock => k_is)
    (case kcUNoBlock => k_is)
    (case iUNoBlock => k_is)
    (case tiUNoBlock => k_is)
    (case lUNoBlock => k_is)
    (case cUNoBlock => k_is)
    (case ceUNoBlock => k_is)
    (case coUNoBlock => k_is)
    (case vsU2NoBlock => rfl)
    (case fiUNoBlock => first | rfl | decide +kernel)
    (case evUNoBlock => exact fun _ _ _ _ _ => ⟨_, rfl⟩)
    (case upUNoBlock => ks_is)
    (case meUNoBlock => k_is)
    (case veUNoBlock => k_is)
    (case opU => k_is)
    (case tpU => first | rfl | decide +kernel)
    (case xUNoPlace => k_is)
    (case rvUNoPlace => decide +kernel)
    (case saUNoPlace => k_is)
    (case exUNoPlace => k_is)
    (case tyUNoPlace => k_is)
    (case kcUNoPlace => k_is)
    (case iUNoPlace => k_is)
    (case tiUNoPlace => k_is)
    (case lUNoPlace => k_is)
    (case cUNoPlace => k_is)
    (case ceUNoPlace => k_is)
    (case coUNoPlace => k_is)
    (case vsU2NoPlace => rfl)
    (case fiUNoPlace => first | rfl | decide +kernel)
    (case evUNoPlace => exact fun _ _ _ _ _ => ⟨_, rfl⟩)
    (case upUNoPlace => ks_is)
    (case meUNoPlace => k_is)
    (case veUNoPlace => k_is)
    (case xUBeneath => k_is)
    (case rvUBeneath => decide +kernel)
    (case saUBeneath => k_is)
    (case exUBeneath => k_is)
    (case tyUBeneath => k_is)
    (case kcUBeneath => k_is)
    (case iUBeneath => k_is)
    (case tiUBeneath => k_is)
    (case lUBeneath => k_is)
    (case cUBeneath => k_is)
    (case ceUBeneath => k_is)
    (case coUBeneath => k_is)
    (case vsU2Beneath => rfl)
    (case fiUBeneath => first | rfl | decide +kernel)
    (case evUBeneath => exact fun _ _ _ _ _ => ⟨_, rfl⟩)
    (case upUBeneath => ks_is)
    (case meUBeneath => k_is)
    (case veUBeneath => k_is)
    (case swint => k_is)
    (case swbool => k_is)
    (case swtuple => k_is)
    (case swlist => k_is)
    (case hdUNoBlock => k_is)
    (case hdUNoPlace => k_is)
    (case hdUBeneath => k_is)
    (case suNoBlock_NoBlock => k_is)
    (case suNoBlock_NoPlace => k_is)
    (case suNoBlock_Beneath => k_is)
    (case suNoPlace_NoBlock => k_is)
    (case suNoPlace_NoPlace => k_is)
    (case suNoPlace_Beneath => k_is)
    (case suBeneath_NoBlock => k_is)
    (case suBeneath_NoPlace => k_is)
    (case suBeneath_Beneath => k_is)
