import PyProof.Rows.All
import Wide.All
import OpenK.AllK
import Wide.FinOn
import HandS.Base
import HandS.Call
import HandS.List
import HandS.Comp
import HandS.Ends
import HandS.Words
import HandS.Codes
import HandS.IsInst
import HandS.Flow
import HandS.Conv
import HandS.Iter
import KE.GoesEnum
import KE.GoesEnumKw
import KE.GoesMore
import HandS.Exc
import HandS.ExcOwn
import HandS.ExcInit
import HandS.TryOnly
import HandS.WordsExc
import KE.KExcIs
import HandS.ExcField
import HandS.ExcIs
import HandS.TupMul
import HandS.Sort
import KE.KExcSuper
import HandS.Small
import PyProof.TupleOfSeq
import HandS.TupAny
import HandS.Star
import PyProof.InstNe
import OpenK.KOwn
import KE.KIndexOf
import HandS.SortRule
import HandS.OwnEq
import PySem.Challenge.RW_foldervotes_k06_whole_twins_and_trees_of
import HandS.Dict
set_option Elab.async false
set_option linter.all false
/-! trees as lists of places; nothing of the program here -/
namespace Fv
def up (hs : List Nat) (k : Nat) : Nat := if k = 0 then 0 else hs.getD (k - 1) 0
def upN (hs : List Nat) : Nat → Nat → Nat
  | 0, k => k
  | j + 1, k => upN hs j (up hs k)
structure IsTree (hs : List Nat) : Prop where
  pos : 1 ≤ hs.length
  most : hs.length ≤ 40
  le : ∀ x ∈ hs, x ≤ hs.length
  comes : ∀ k, k ≤ hs.length → upN hs hs.length k = 0
theorem up_zero (hs : List Nat) : up hs 0 = 0 := rfl
theorem upN_zero (hs : List Nat) : ∀ j, upN hs j 0 = 0
  | 0 => rfl
  | j + 1 => by
    show upN hs j (up hs 0) = 0
    rw [up_zero]
    exact upN_zero hs j
theorem upN_add (hs : List Nat) : ∀ i j k, upN hs (i + j) k = upN hs j (upN hs i k)
  | 0, j, k => by
    rw [Nat.zero_add]
    rfl
  | i + 1, j, k => by
    rw [Nat.add_right_comm]
    exact upN_add hs i j (up hs k)
theorem upN_succ (hs : List Nat) (j k : Nat) : upN hs (j + 1) k = up hs (upN hs j k) := upN_add hs j 1 k
theorem upN_more {hs : List Nat} {i j k : Nat} (h : upN hs i k = 0) (hj : i ≤ j) : upN hs j k = 0 := by
  obtain ⟨d, rfl⟩ := Nat.le.dest hj
  rw [upN_add, h]
  exact upN_zero hs d
theorem up_le {hs : List Nat} (h : ∀ x ∈ hs, x ≤ hs.length) (k : Nat) : up hs k ≤ hs.length := by
  unfold up
  split
  · exact Nat.zero_le _
  · rw [List.getD_eq_getElem?_getD]
    cases e : hs[k - 1]? with
    | none => exact Nat.zero_le _
    | some x => exact h x (List.mem_of_getElem? e)
theorem upN_le {hs : List Nat} (h : ∀ x ∈ hs, x ≤ hs.length) : ∀ j k, k ≤ hs.length → upN hs j k ≤ hs.length
  | 0, _, hk => hk
  | j + 1, k, _ => upN_le h j (up hs k) (up_le h k)
theorem up_at {hs : List Nat} {k x : Nat} (hk : k ≠ 0) (h : hs[k - 1]? = some x) : up hs k = x := by
  unfold up
  rw [if_neg hk, List.getD_eq_getElem?_getD, h]
  rfl
/-- what is drawn: the blocks in some order, each under one ahead of it, or the head -/
def Drawn (hs : List Nat) : Prop := ∃ ms : List Nat, ms.Perm (List.range' 1 hs.length) ∧ ∀ (i x : Nat), ms[i]? = some x → ∃ j y : Nat, j ≤ i ∧ (0 :: ms)[j]? = some y ∧ hs[x - 1]? = some y
theorem Drawn.tree {hs : List Nat} (h : Drawn hs) (h1 : 1 ≤ hs.length) (h2 : hs.length ≤ 40) : IsTree hs := by
  obtain ⟨ms, hp, hd⟩ := h
  have hlen : ms.length = hs.length := by rw [hp.length_eq, List.length_range']
  have mem : ∀ x, x ∈ ms ↔ 1 ≤ x ∧ x < 1 + hs.length := fun x => by rw [hp.mem_iff, List.mem_range'_1]
  have key : ∀ i x, ms[i]? = some x → upN hs (i + 1) x = 0 := by
    intro i
    induction i using Nat.strongRecOn with
    | ind i ih =>
      intro x hx
      obtain ⟨j, y, hj, hy, e⟩ := hd i x hx
      have x1 := (mem x).mp (List.mem_of_getElem? hx)
      show upN hs i (up hs x) = 0
      rw [up_at (by omega) e]
      cases j with
      | zero =>
        have e0 : 0 = y := Option.some.inj hy
        rw [← e0]
        exact upN_zero hs i
      | succ j => exact upN_more (ih j (by omega) y hy) (by omega)
  refine ⟨h1, h2, fun x hx => ?_, fun k hk => ?_⟩
  · obtain ⟨p, hp1, e⟩ := List.getElem_of_mem hx
    have hm := (mem (p + 1)).mpr ⟨by omega, by omega⟩
    obtain ⟨i, hi, e2⟩ := List.getElem_of_mem hm
    obtain ⟨j, y, hj, hy, e3⟩ := hd i (p + 1) (by rw [List.getElem?_eq_getElem hi, e2])
    have e4 : hs[p]? = some y := e3
    rw [List.getElem?_eq_getElem hp1, e] at e4
    cases e4
    cases j with
    | zero =>
      have e0 : 0 = x := Option.some.inj hy
      omega
    | succ j =>
      have := (mem x).mp (List.mem_of_getElem? (show ms[j]? = some x from hy))
      omega
  · by_cases h0 : k = 0
    · rw [h0]
      exact upN_zero hs _
    · obtain ⟨i, hi, e2⟩ := List.getElem_of_mem ((mem k).mpr ⟨by omega, by omega⟩)
      exact upN_more (key i k (by rw [List.getElem?_eq_getElem hi, e2])) (by omega)
theorem perm_erase : ∀ {l : List Nat} {i : Nat} {x : Nat}, l[i]? = some x → (x :: l.eraseIdx i).Perm l
  | [], _, _, h => by simp at h
  | a :: l, 0, x, h => by
    have e : a = x := Option.some.inj h
    rw [e]
    exact List.Perm.refl _
  | a :: l, i + 1, x, h => by
    have ih := perm_erase (l := l) (i := i) (x := x) h
    exact (List.Perm.swap a x _).trans (ih.cons a)
/-! whatever leads, the head is come to in as many steps as there are blocks, or never -/
theorem bounded_len : ∀ (n : Nat) (l : List Nat), l.Nodup → (∀ x ∈ l, 1 ≤ x ∧ x ≤ n) → l.length ≤ n
  | 0, l, _, h => by
    cases l with
    | nil => exact Nat.le_refl _
    | cons x r =>
      have := h x List.mem_cons_self
      omega
  | n + 1, l, hn, h => by
    have h1 : (l.erase (n + 1)).length ≤ n := bounded_len n _ (hn.erase _) fun x hx => by
      have hx1 := (List.Nodup.mem_erase_iff hn).mp hx
      have := h x hx1.2
      omega
    by_cases hm : n + 1 ∈ l
    · rw [List.length_erase_of_mem hm] at h1
      omega
    · rw [List.erase_of_not_mem hm] at h1
      omega
theorem comes_by {hs : List Nat} (h : ∀ x ∈ hs, x ≤ hs.length) {j k : Nat} (hk : k ≤ hs.length) (hj : upN hs j k = 0) : upN hs hs.length k = 0 := by
  -- the least such number of steps
  have ex : ∃ d, upN hs d k = 0 ∧ ∀ d', d' < d → upN hs d' k ≠ 0 := by
    induction j using Nat.strongRecOn with
    | ind j ih =>
      by_cases hx : ∃ d, d < j ∧ upN hs d k = 0
      · obtain ⟨d, hd, e⟩ := hx
        exact ih d hd e
      · exact ⟨j, hj, fun d' hd e => hx ⟨d', hd, e⟩⟩
  obtain ⟨d, e, least⟩ := ex
  refine upN_more e ?_
  have hl : ((List.range d).map fun i => upN hs i k).length ≤ hs.length := by
    refine bounded_len hs.length _ ?_ fun x hx => ?_
    · rw [List.nodup_iff_pairwise_ne, List.pairwise_map]
      refine List.Pairwise.imp_of_mem (R := (· < ·)) (fun {a b} ha hb hlt heq => ?_) List.pairwise_lt_range
      rw [List.mem_range] at ha hb
      -- from a equal places one comes to the head as soon from a as from b
      have e1 : upN hs (a + (d - b)) k = 0 := by
        rw [upN_add, heq, ← upN_add, show b + (d - b) = d by omega]
        exact e
      exact least _ (by omega) e1
    · obtain ⟨i, hi, rfl⟩ := List.mem_map.mp hx
      rw [List.mem_range] at hi
      have := least i hi
      have := upN_le h i k hk
      omega
  rw [List.length_map, List.length_range] at hl
  exact hl
end Fv
/-! trees with a block hung elsewhere, or called anew -/
namespace Fv
def wayN (hs : List Nat) : Nat → Nat → List Nat
  | 0, _ => []
  | n + 1, k => if k = 0 then [] else up hs k :: wayN hs n (up hs k)
def way (hs : List Nat) (k : Nat) : List Nat := wayN hs hs.length k
theorem way_mem (hs : List Nat) (x : Nat) : ∀ n k, x ∈ wayN hs n k ↔ ∃ j, j < n ∧ upN hs j k ≠ 0 ∧ upN hs (j + 1) k = x
  | 0, k => by
    constructor
    · intro h
      cases h
    · rintro ⟨j, h, _⟩
      omega
  | n + 1, k => by
    show x ∈ (if k = 0 then [] else up hs k :: wayN hs n (up hs k)) ↔ _
    by_cases h0 : k = 0
    · rw [if_pos h0]
      constructor
      · intro h
        cases h
      · rintro ⟨j, _, h, _⟩
        rw [h0] at h
        exact (h (upN_zero hs j)).elim
    · rw [if_neg h0, List.mem_cons, way_mem hs x n (up hs k)]
      constructor
      · rintro (rfl | ⟨j, h1, h2, h3⟩)
        · exact ⟨0, by omega, h0, rfl⟩
        · exact ⟨j + 1, by omega, h2, h3⟩
      · rintro ⟨j, h1, h2, h3⟩
        cases j with
        | zero => exact .inl h3.symm
        | succ j => exact .inr ⟨j, by omega, h2, h3⟩
theorem up_get {hs : List Nat} {k : Nat} (h1 : 1 ≤ k) (h2 : k ≤ hs.length) : hs[k - 1]? = some (up hs k) := by
  have h : k - 1 < hs.length := by omega
  rw [List.getElem?_eq_getElem h, up_at (by omega) (List.getElem?_eq_getElem h)]
/-- on the way from p: b is p, or above it -/
theorem on_way {hs : List Nat} (t : IsTree hs) {b p : Nat} (hb : 1 ≤ b) (hp : p ≤ hs.length) (n1 : p ≠ b) (n2 : b ∉ way hs p) : ∀ j, upN hs j p ≠ b := by
  intro j e
  cases j with
  | zero => exact n1 e
  | succ j =>
    have nz : upN hs j p ≠ 0 := fun h => by
      rw [upN_succ, h] at e
      have : up hs 0 = 0 := rfl
      omega
    refine n2 ((way_mem hs b _ _).mpr ⟨j, ?_, nz, e⟩)
    refine Nat.lt_of_not_le fun hle => nz ?_
    exact upN_more (t.comes p hp) hle
/-- block b under p -/
def put (hs : List Nat) (b p : Nat) : List Nat := hs.set (b - 1) p
theorem put_len (hs : List Nat) (b p : Nat) : (put hs b p).length = hs.length := List.length_set
theorem up_put {hs : List Nat} {b p : Nat} (hb : 1 ≤ b) (hb2 : b ≤ hs.length) (k : Nat) : up (put hs b p) k = if k = b then p else up hs k := by
  unfold up put
  by_cases h0 : k = 0
  · rw [if_pos h0, if_neg (by omega), if_pos h0]
  · rw [if_neg h0, if_neg h0, List.getD_eq_getElem?_getD, List.getElem?_set, List.getD_eq_getElem?_getD]
    by_cases h : k = b
    · subst h
      rw [if_pos rfl, if_pos rfl, if_pos (by omega)]
      rfl
    · rw [if_neg (by omega), if_neg h]
theorem upN_put {hs : List Nat} {b p : Nat} (hb : 1 ≤ b) (hb2 : b ≤ hs.length) {k : Nat} : ∀ j, (∀ i, i < j → upN hs i k ≠ b) → upN (put hs b p) j k = upN hs j k
  | 0, _ => rfl
  | j + 1, h => by
    rw [upN_succ, upN_succ, upN_put hb hb2 j fun i hi => h i (by omega), up_put hb hb2, if_neg (h j (by omega))]
theorem put_tree {hs : List Nat} (t : IsTree hs) {b p : Nat} (hb : 1 ≤ b) (hb2 : b ≤ hs.length) (hp : p ≤ hs.length) (n1 : p ≠ b) (n2 : b ∉ way hs p) : IsTree (put hs b p) := by
  have np := on_way t hb hp n1 n2
  have hle : ∀ x ∈ put hs b p, x ≤ (put hs b p).length := fun x hx => by
    rw [put_len]
    rcases List.mem_or_eq_of_mem_set hx with hx | rfl
    · exact t.le x hx
    · exact hp
  have hpz : upN (put hs b p) hs.length p = 0 := by
    rw [upN_put hb hb2 _ fun i _ => np i]
    exact t.comes p hp
  refine ⟨by rw [put_len]; exact t.pos, by rw [put_len]; exact t.most, hle, fun k hk => ?_⟩
  have hk' : k ≤ hs.length := by rwa [put_len] at hk
  have go : ∀ j, upN hs j k = b → upN (put hs b p) (put hs b p).length k = 0 := by
    intro j
    induction j using Nat.strongRecOn with
    | ind j ih =>
      intro hj
      by_cases hx : ∃ i, i < j ∧ upN hs i k = b
      · obtain ⟨i, hi, e⟩ := hx
        exact ih i hi e
      · have e := upN_put (p := p) hb hb2 (k := k) j fun i hi e => hx ⟨i, hi, e⟩
        refine comes_by (j := j + (1 + hs.length)) hle hk ?_
        rw [upN_add, e, hj, upN_add]
        show upN (put hs b p) hs.length (up (put hs b p) b) = 0
        rw [up_put hb hb2, if_pos rfl]
        exact hpz
  by_cases hx : ∃ j, upN hs j k = b
  · obtain ⟨j, e⟩ := hx
    exact go j e
  · refine comes_by (j := hs.length) hle hk ?_
    rw [upN_put hb hb2 _ fun i _ e => hx ⟨i, e⟩]
    exact t.comes k hk'
/-! names -/
def IsOrd (n : Nat) (ms : List Nat) : Prop := ms.Perm (List.range' 1 n)
theorem IsOrd.len {n : Nat} {ms : List Nat} (o : IsOrd n ms) : ms.length = n := by rw [o.length_eq, List.length_range']
theorem IsOrd.mem {n : Nat} {ms : List Nat} (o : IsOrd n ms) {x : Nat} : x ∈ ms ↔ 1 ≤ x ∧ x ≤ n := by
  rw [o.mem_iff, List.mem_range'_1]
  omega
theorem IsOrd.nodup {n : Nat} {ms : List Nat} (o : IsOrd n ms) : ms.Nodup := o.nodup_iff.mpr List.nodup_range'
theorem IsOrd.rg {n k : Nat} {ms : List Nat} (o : IsOrd n ms) (h1 : 1 ≤ k) (h2 : k ≤ n) : 1 ≤ up ms k ∧ up ms k ≤ n := o.mem.mp (List.mem_of_getElem? (up_get h1 (by rw [o.len]; exact h2)))
theorem IsOrd.rg0 {n k : Nat} {ms : List Nat} (o : IsOrd n ms) (h2 : k ≤ n) : up ms k ≤ n := by
  by_cases h : k = 0
  · subst h
    exact Nat.zero_le _
  · exact (o.rg (by omega) h2).2
theorem IsOrd.inj {n k l : Nat} {ms : List Nat} (o : IsOrd n ms) (hk : k ≤ n) (hl : l ≤ n) (e : up ms k = up ms l) : k = l := by
  by_cases hk0 : k = 0
  · subst hk0
    by_cases hl0 : l = 0
    · exact hl0.symm
    · have := (o.rg (k := l) (by omega) hl).1
      rw [← e] at this
      exact absurd this (by show ¬ 1 ≤ 0; omega)
  · by_cases hl0 : l = 0
    · subst hl0
      have := (o.rg (k := k) (by omega) hk).1
      rw [e] at this
      exact absurd this (by show ¬ 1 ≤ 0; omega)
    · have h1 := up_get (hs := ms) (k := k) (by omega) (by rw [o.len]; exact hk)
      have h2 := up_get (hs := ms) (k := l) (by omega) (by rw [o.len]; exact hl)
      rw [e] at h1
      have h3 : k - 1 < ms.length := by rw [o.len]; omega
      have := (List.getElem?_inj h3 o.nodup).mp (h1.trans h2.symm)
      omega
theorem IsOrd.surj {n x : Nat} {ms : List Nat} (o : IsOrd n ms) (h1 : 1 ≤ x) (h2 : x ≤ n) : ∃ k, 1 ≤ k ∧ k ≤ n ∧ up ms k = x := by
  obtain ⟨i, hi, e⟩ := List.getElem_of_mem (o.mem.mpr ⟨h1, h2⟩)
  have := o.len
  exact ⟨i + 1, by omega, by omega, up_at (by omega) (by rw [Nat.add_sub_cancel, List.getElem?_eq_getElem hi, e])⟩
/-- the first i blocks called anew -/
def callN (hs ms : List Nat) : Nat → List Nat
  | 0 => List.replicate hs.length 0
  | i + 1 => (callN hs ms i).set (up ms (i + 1) - 1) (up ms (up hs (i + 1)))
def call2 (hs ms : List Nat) : List Nat := callN hs ms hs.length
theorem callN_len (hs ms : List Nat) : ∀ i, (callN hs ms i).length = hs.length
  | 0 => List.length_replicate
  | i + 1 => by
    show ((callN hs ms i).set _ _).length = _
    rw [List.length_set, callN_len hs ms i]
theorem callN_get {hs ms : List Nat} (o : IsOrd hs.length ms) : ∀ i, i ≤ hs.length → ∀ c, 1 ≤ c → c ≤ i → (callN hs ms i)[up ms c - 1]? = some (up ms (up hs c))
  | 0, _, c, h1, h2 => absurd h2 (by omega)
  | i + 1, hi, c, h1, h2 => by
    show ((callN hs ms i).set (up ms (i + 1) - 1) (up ms (up hs (i + 1))))[up ms c - 1]? = _
    have a := o.rg (k := i + 1) (by omega) hi
    have b := o.rg (k := c) h1 (by omega)
    rw [List.getElem?_set]
    by_cases e : c = i + 1
    · subst e
      rw [if_pos rfl, if_pos (by rw [callN_len]; omega)]
    · have ne : up ms (i + 1) - 1 ≠ up ms c - 1 := fun h => e (o.inj (by omega) hi (by omega))
      rw [if_neg ne]
      exact callN_get o i (by omega) c h1 (by omega)
theorem call2_len (hs ms : List Nat) : (call2 hs ms).length = hs.length := callN_len hs ms _
theorem call2_up {hs ms : List Nat} (o : IsOrd hs.length ms) {c : Nat} (h2 : c ≤ hs.length) : up (call2 hs ms) (up ms c) = up ms (up hs c) := by
  by_cases h0 : c = 0
  · subst h0
    rfl
  · have a := o.rg (k := c) (by omega) h2
    exact up_at (by omega) (callN_get o _ (Nat.le_refl _) c (by omega) h2)
theorem call2_upN {hs ms : List Nat} (t : IsTree hs) (o : IsOrd hs.length ms) {c : Nat} (h2 : c ≤ hs.length) : ∀ j, upN (call2 hs ms) j (up ms c) = up ms (upN hs j c)
  | 0 => rfl
  | j + 1 => by
    rw [upN_succ, upN_succ, call2_upN t o h2 j]
    exact call2_up o (upN_le t.le j c h2)
/-- two lists that tell alike of all blocks -/
theorem same_ups {xs ys : List Nat} (hl : xs.length = ys.length) (h : ∀ k, 1 ≤ k → k ≤ xs.length → up xs k = up ys k) : xs = ys := by
  refine List.ext_getElem? fun i => ?_
  by_cases hi : i < xs.length
  · have a := up_get (hs := xs) (k := i + 1) (by omega) (by omega)
    have b := up_get (hs := ys) (k := i + 1) (by omega) (by omega)
    rw [Nat.add_sub_cancel] at a b
    rw [a, b, h (i + 1) (by omega) (by omega)]
  · rw [List.getElem?_eq_none (by omega), List.getElem?_eq_none (by omega)]
theorem call2_tree {hs ms : List Nat} (t : IsTree hs) (o : IsOrd hs.length ms) : IsTree (call2 hs ms) := by
  refine ⟨by rw [call2_len]; exact t.pos, by rw [call2_len]; exact t.most, fun x hx => ?_, fun k hk => ?_⟩
  · rw [call2_len]
    obtain ⟨i, hi, e⟩ := List.getElem_of_mem hx
    rw [call2_len] at hi
    obtain ⟨c, c1, c2, ec⟩ := o.surj (x := i + 1) (by omega) (by omega)
    have hu := call2_up o c2
    rw [ec] at hu
    have hg := up_get (hs := call2 hs ms) (k := i + 1) (by omega) (by rw [call2_len]; omega)
    rw [Nat.add_sub_cancel, List.getElem?_eq_getElem (by rw [call2_len]; exact hi), hu] at hg
    rw [← e, Option.some.inj hg]
    exact o.rg0 (up_le t.le c)
  · rw [call2_len] at hk ⊢
    by_cases h0 : k = 0
    · subst h0
      exact upN_zero _ _
    · obtain ⟨c, c1, c2, ec⟩ := o.surj (x := k) (by omega) hk
      rw [← ec, call2_upN t o c2, t.comes c c2]
      rfl
/-- called behind moved, and moved behind called -/
theorem call_put {hs ms : List Nat} (o : IsOrd hs.length ms) {b p : Nat} (hb : 1 ≤ b) (hb2 : b ≤ hs.length) (hp : p ≤ hs.length) : call2 (put hs b p) ms = put (call2 hs ms) (up ms b) (up ms p) := by
  have rb := o.rg hb hb2
  have op : IsOrd (put hs b p).length ms := by
    rw [put_len]
    exact o
  refine same_ups (by rw [call2_len, put_len, put_len, call2_len]) fun k h1 h2 => ?_
  rw [call2_len, put_len] at h2
  obtain ⟨c, c1, c2, ec⟩ := o.surj h1 h2
  rw [← ec, call2_up op (by rw [put_len]; exact c2), up_put hb hb2, up_put (by omega) (by rw [call2_len]; omega), call2_up o c2]
  by_cases e : c = b
  · subst e
    rw [if_pos rfl, if_pos rfl]
  · rw [if_neg e, if_neg fun h => e (o.inj c2 hb2 h)]
theorem call_free {hs ms : List Nat} (t : IsTree hs) (o : IsOrd hs.length ms) {b p : Nat} (hb : 1 ≤ b) (hb2 : b ≤ hs.length) (hp : p ≤ hs.length) (n1 : p ≠ b) (n2 : b ∉ way hs p) : up ms p ≠ up ms b ∧ up ms b ∉ way (call2 hs ms) (up ms p) := by
  refine ⟨fun e => n1 (o.inj hp hb2 e), fun h => ?_⟩
  obtain ⟨j, _, _, e⟩ := (way_mem _ _ _ _).mp h
  rw [call2_upN t o hp] at e
  exact on_way t hb hp n1 n2 (j + 1) (o.inj (upN_le t.le _ p hp) hb2 e)
/-- in the order turned about it is the first one again -/
theorem call_back {hs ms ks : List Nat} (t : IsTree hs) (o : IsOrd hs.length ms) (o' : IsOrd hs.length ks) (h : ∀ b, 1 ≤ b → b ≤ hs.length → up ks (up ms b) = b) : call2 (call2 hs ms) ks = hs := by
  have o2 : IsOrd (call2 hs ms).length ks := by
    rw [call2_len]
    exact o'
  refine same_ups (by rw [call2_len, call2_len]) fun k h1 h2 => ?_
  rw [call2_len, call2_len] at h2
  have rk := o.rg h1 h2
  have e := call2_up o2 (c := up ms k) (by rw [call2_len]; exact rk.2)
  rw [h k h1 h2, call2_up o h2] at e
  rw [e]
  by_cases h0 : up hs k = 0
  · rw [h0]
    rfl
  · exact h _ (by omega) (up_le t.le k)
end Fv
/-! what places tell of trees -/
namespace Fv
theorem wayN_eq (hs : List Nat) : ∀ m k n, (∀ j, j < n → upN hs j k ≠ 0) → upN hs n k = 0 → n ≤ m → wayN hs m k = (List.range n).map fun i => upN hs (i + 1) k
  | m, k, 0, _, h, _ => by
    have e : k = 0 := h
    subst e
    cases m with
    | zero => rfl
    | succ m => exact if_pos rfl
  | 0, k, n + 1, _, _, h => absurd h (by omega)
  | m + 1, k, n + 1, hn, h, hm => by
    have k0 : k ≠ 0 := hn 0 (by omega)
    show (if k = 0 then [] else up hs k :: wayN hs m (up hs k)) = _
    rw [if_neg k0, wayN_eq hs m (up hs k) n (fun j hj => hn (j + 1) (by omega)) h (by omega), List.range_succ_eq_map, List.map_cons, List.map_map]
    rfl
theorem wayN_snoc (hs : List Nat) : ∀ i k, wayN hs (i + 1) k = wayN hs i k ++ if upN hs i k = 0 then [] else [upN hs (i + 1) k]
  | 0, k => by
    show (if k = 0 then [] else [up hs k]) = [] ++ _
    rfl
  | i + 1, k => by
    show (if k = 0 then [] else up hs k :: wayN hs (i + 1) (up hs k)) = (if k = 0 then [] else up hs k :: wayN hs i (up hs k)) ++ _
    by_cases h : k = 0
    · subst h
      rw [if_pos rfl, if_pos rfl, upN_zero, if_pos rfl]
      rfl
    · rw [if_neg h, if_neg h, wayN_snoc hs i (up hs k)]
      rfl
theorem range_snoc (n : Nat) : List.range' 1 (n + 1) = List.range' 1 n ++ [1 + n] := by
  rw [List.range'_concat, Nat.one_mul]
/-- the blocks that hang just under a place, and those beneath it -/
def kids (hs : List Nat) (p : Nat) : List Nat := (List.range' 1 hs.length).filter fun b => decide (up hs b = p)
def below (hs : List Nat) (p : Nat) : List Nat := (List.range' 1 hs.length).filter fun b => decide (p ∈ way hs b)
theorem filter_snoc (g : Nat → Bool) (n : Nat) : (List.range' 1 (n + 1)).filter g = (List.range' 1 n).filter g ++ if g (n + 1) = true then [n + 1] else [] := by
  rw [range_snoc, List.filter_append, Nat.add_comm 1 n]
  congr 1
  by_cases h : g (n + 1) = true
  · rw [if_pos h, List.filter_cons_of_pos h]
    rfl
  · rw [if_neg h, List.filter_cons_of_neg h]
    rfl
theorem filter_len (g : Nat → Bool) (n : Nat) : ((List.range' 1 n).filter g).length ≤ n := by
  refine Nat.le_trans (List.length_filter_le _ _) ?_
  rw [List.length_range']
  exact Nat.le_refl _
theorem wayN_len (hs : List Nat) : ∀ n k, (wayN hs n k).length ≤ n
  | 0, _ => Nat.le_refl _
  | n + 1, k => by
    show (if k = 0 then [] else up hs k :: wayN hs n (up hs k)).length ≤ n + 1
    split
    · exact Nat.zero_le _
    · exact Nat.succ_le_succ (wayN_len hs n _)
theorem wayN_nil (hs : List Nat) : ∀ n, wayN hs n 0 = []
  | 0 => rfl
  | n + 1 => if_pos rfl
theorem wayN_cons (hs : List Nat) (n : Nat) {k : Nat} (h : k ≠ 0) : wayN hs (n + 1) k = up hs k :: wayN hs n (up hs k) := if_neg h
theorem wayN_take (hs : List Nat) : ∀ m j k, (wayN hs m k).take j = wayN hs (min j m) k
  | m, 0, k => by
    rw [Nat.zero_min]
    exact List.take_zero
  | 0, j + 1, k => by
    rw [Nat.min_zero]
    rfl
  | m + 1, j + 1, k => by
    rw [show min (j + 1) (m + 1) = min j m + 1 by omega]
    by_cases h : k = 0
    · rw [h, wayN_nil, wayN_nil, List.take_nil]
    · rw [wayN_cons hs m h, wayN_cons hs _ h, List.take_succ_cons, wayN_take hs m j]
theorem wayN_stop {hs : List Nat} : ∀ {n k m}, upN hs n k = 0 → n ≤ m → wayN hs m k = wayN hs n k
  | 0, k, m, h, _ => by
    have e : k = 0 := h
    rw [e, wayN_nil, wayN_nil]
  | n + 1, k, 0, _, h2 => absurd h2 (by omega)
  | n + 1, k, m + 1, h, h2 => by
    by_cases h0 : k = 0
    · rw [h0, wayN_nil, wayN_nil]
    · rw [wayN_cons hs m h0, wayN_cons hs n h0, wayN_stop (n := n) (k := up hs k) (m := m) h (by omega)]
theorem way_take {hs : List Nat} (t : IsTree hs) {k : Nat} (hk : k ≤ hs.length) (d : Nat) : (way hs k).take d = wayN hs d k := by
  unfold way
  rw [wayN_take]
  by_cases h : d ≤ hs.length
  · rw [Nat.min_eq_left h]
  · rw [Nat.min_eq_right (by omega), wayN_stop (n := hs.length) (m := d) (t.comes k hk) (by omega)]
theorem wayN_le {hs : List Nat} (h : ∀ x ∈ hs, x ≤ hs.length) {n k x : Nat} (hx : x ∈ wayN hs n k) : x ≤ hs.length := by
  obtain ⟨j, _, nz, e⟩ := (way_mem hs x n k).mp hx
  rw [← e, upN_succ]
  exact up_le h _
/-- no place leads to itself -/
theorem no_ring {hs : List Nat} (t : IsTree hs) {k m : Nat} (hk : k ≤ hs.length) (h0 : k ≠ 0) (hm : 1 ≤ m) : upN hs m k ≠ k := by
  intro e
  have go : ∀ i, upN hs (i * m) k = k := fun i => by
    induction i with
    | zero =>
      rw [Nat.zero_mul]
      rfl
    | succ i ih => rw [Nat.add_mul, Nat.one_mul, upN_add, ih, e]
  have h1 := go hs.length
  have h2 : upN hs (hs.length * m) k = 0 := upN_more (t.comes k hk) (Nat.le_mul_of_pos_right _ hm)
  rw [h2] at h1
  exact h0 h1.symm
theorem wayN_at {hs : List Nat} : ∀ {n k i x}, (wayN hs n k)[i]? = some x → i < n ∧ upN hs i k ≠ 0 ∧ upN hs (i + 1) k = x
  | 0, _, _, _, h => by cases h
  | n + 1, k, i, x, h => by
    by_cases h0 : k = 0
    · rw [h0, wayN_nil] at h
      cases h
    · rw [wayN_cons hs n h0] at h
      cases i with
      | zero => exact ⟨by omega, h0, Option.some.inj h⟩
      | succ i =>
        rw [List.getElem?_cons_succ] at h
        obtain ⟨a, b, c⟩ := wayN_at h
        exact ⟨by omega, b, c⟩
theorem wayN_nodup {hs : List Nat} (t : IsTree hs) {n k : Nat} (hk : k ≤ hs.length) : (wayN hs n k).Nodup := by
  have key : ∀ (i j x : Nat), i < j → (wayN hs n k)[i]? = some x → (wayN hs n k)[j]? = some x → False := fun i j x hij h1 h2 => by
    obtain ⟨_, _, e1⟩ := wayN_at h1
    obtain ⟨_, n2, e2⟩ := wayN_at h2
    have nz : x ≠ 0 := fun e => by
      rw [e] at e1
      exact n2 (upN_more e1 (by omega))
    have hx : x ≤ hs.length := by
      rw [← e1]
      exact upN_le t.le _ k hk
    refine no_ring t (m := j - i) hx nz (by omega) ?_
    rw [← e1, ← upN_add, show i + 1 + (j - i) = j + 1 by omega, e1, e2]
  refine List.pairwise_iff_getElem.mpr fun i j hi hj hij e => ?_
  refine key i j _ hij (List.getElem?_eq_getElem hi) ?_
  rw [List.getElem?_eq_getElem hj, e]
/-! levels beneath a place -/
def lev (hs : List Nat) (p : Nat) : Nat → List Nat
  | 0 => [p]
  | i + 1 => (lev hs p i).flatMap (kids hs)
def withUp (hs : List Nat) (bs : List Nat) : List (Nat × Nat) := bs.map fun b => (b, up hs b)
def acc (hs : List Nat) (p : Nat) : Nat → List Nat
  | 0 => []
  | i + 1 => acc hs p i ++ lev hs p (i + 1)
theorem kids_mem {hs : List Nat} {b p : Nat} : b ∈ kids hs p ↔ 1 ≤ b ∧ b ≤ hs.length ∧ up hs b = p := by
  unfold kids
  rw [List.mem_filter, List.mem_range'_1, decide_eq_true_eq]
  omega
theorem kids_nodup (hs : List Nat) (p : Nat) : (kids hs p).Nodup := List.Pairwise.filter _ List.nodup_range'
theorem lev_mem {hs : List Nat} {p : Nat} (t : IsTree hs) (hp : p ≤ hs.length) : ∀ i b, b ∈ lev hs p i ↔ b ≤ hs.length ∧ upN hs i b = p ∧ ∀ j, j < i → upN hs j b ≠ 0
  | 0, b => by
    show b ∈ [p] ↔ _
    rw [List.mem_singleton]
    constructor
    · rintro rfl
      exact ⟨hp, rfl, fun j h => absurd h (by omega)⟩
    · exact fun h => h.2.1
  | i + 1, b => by
    show b ∈ (lev hs p i).flatMap (kids hs) ↔ _
    rw [List.mem_flatMap]
    constructor
    · rintro ⟨a, ha, hb⟩
      obtain ⟨b1, b2, rfl⟩ := kids_mem.mp hb
      obtain ⟨_, e, nz⟩ := (lev_mem t hp i _).mp ha
      refine ⟨b2, e, fun j hj => ?_⟩
      cases j with
      | zero =>
        show b ≠ 0
        omega
      | succ j => exact nz j (by omega)
    · rintro ⟨h1, h2, h3⟩
      have b0 : b ≠ 0 := h3 0 (by omega)
      exact ⟨up hs b, (lev_mem t hp i _).mpr ⟨up_le t.le b, h2, fun j hj => h3 (j + 1) (by omega)⟩, kids_mem.mpr ⟨by omega, h1, rfl⟩⟩
theorem lev_nodup {hs : List Nat} {p : Nat} : ∀ i, (lev hs p i).Nodup
  | 0 => List.pairwise_singleton _ _
  | i + 1 => by
    show ((lev hs p i).flatMap (kids hs)).Nodup
    refine List.pairwise_flatMap.mpr ⟨fun a _ => kids_nodup hs a, (lev_nodup i).imp fun {a b} hab x hx y hy e => hab ?_⟩
    subst e
    exact (kids_mem.mp hx).2.2.symm.trans (kids_mem.mp hy).2.2
theorem acc_mem {hs : List Nat} {p : Nat} (t : IsTree hs) (hp : p ≤ hs.length) : ∀ d b, b ∈ acc hs p d ↔ b ≤ hs.length ∧ p ∈ wayN hs d b
  | 0, b => by
    show b ∈ [] ↔ _ ∧ p ∈ []
    simp
  | d + 1, b => by
    show b ∈ acc hs p d ++ lev hs p (d + 1) ↔ _
    rw [List.mem_append, acc_mem t hp d, lev_mem t hp, way_mem, way_mem]
    constructor
    · rintro (⟨h1, j, h2, h3, h4⟩ | ⟨h1, h2, h3⟩)
      · exact ⟨h1, j, by omega, h3, h4⟩
      · exact ⟨h1, d, by omega, h3 d (by omega), h2⟩
    · rintro ⟨h1, j, h2, h3, h4⟩
      by_cases e : j < d
      · exact .inl ⟨h1, j, e, h3, h4⟩
      · have e2 : j = d := by omega
        subst e2
        exact .inr ⟨h1, h4, fun i hi z => h3 (upN_more z (by omega))⟩
theorem acc_nodup {hs : List Nat} {p : Nat} (t : IsTree hs) (hp : p ≤ hs.length) : ∀ d, (acc hs p d).Nodup
  | 0 => List.Pairwise.nil
  | d + 1 => by
    show (acc hs p d ++ lev hs p (d + 1)).Nodup
    refine List.nodup_append.mpr ⟨acc_nodup t hp d, lev_nodup _, fun x hx y hy e => ?_⟩
    subst e
    obtain ⟨h1, hw⟩ := (acc_mem t hp d x).mp hx
    obtain ⟨j, h2, h3, h4⟩ := (way_mem _ _ _ _).mp hw
    obtain ⟨_, e, nz⟩ := (lev_mem t hp _ x).mp hy
    have p0 : p ≠ 0 := by
      rw [← h4]
      exact nz (j + 1) (by omega)
    refine no_ring t (m := d - j) hp p0 (by omega) ?_
    have e2 : upN hs (d + 1) x = upN hs (d - j) (upN hs (j + 1) x) := by
      rw [← upN_add, show j + 1 + (d - j) = d + 1 by omega]
    rw [h4, e] at e2
    exact e2.symm
/-- the blocks beneath a place by at most so many steps, and the ties of these -/
def near (hs : List Nat) (d p : Nat) : List Nat := (List.range' 1 hs.length).filter fun b => decide (p ∈ wayN hs d b)
def tiesN (hs : List Nat) (d p : Nat) : List (Nat × Nat) := withUp hs (near hs d p)
theorem near_mem {hs : List Nat} {d p b : Nat} : b ∈ near hs d p ↔ b ≤ hs.length ∧ p ∈ wayN hs d b := by
  unfold near
  rw [List.mem_filter, List.mem_range'_1, decide_eq_true_eq]
  constructor
  · rintro ⟨h1, h2⟩
    exact ⟨by omega, h2⟩
  · rintro ⟨h1, h2⟩
    refine ⟨⟨Nat.one_le_iff_ne_zero.mpr fun e => ?_, by omega⟩, h2⟩
    rw [e, wayN_nil] at h2
    cases h2
theorem acc_perm {hs : List Nat} {p : Nat} (t : IsTree hs) (hp : p ≤ hs.length) (d : Nat) : (acc hs p d).Perm (near hs d p) := by
  refine (List.perm_ext_iff_of_nodup (acc_nodup t hp d) (List.Pairwise.filter _ List.nodup_range')).mpr fun b => ?_
  rw [acc_mem t hp]
  exact near_mem.symm
theorem near_len (hs : List Nat) (d p : Nat) : (near hs d p).length ≤ hs.length := filter_len _ _
theorem acc_len {hs : List Nat} {p : Nat} (t : IsTree hs) (hp : p ≤ hs.length) (d : Nat) : (acc hs p d).length ≤ hs.length := by
  rw [(acc_perm t hp d).length_eq]
  exact near_len hs d p
theorem lev_len {hs : List Nat} {p : Nat} (t : IsTree hs) (hp : p ≤ hs.length) (i : Nat) : (lev hs p i).length ≤ hs.length := by
  cases i with
  | zero =>
    show 1 ≤ _
    exact t.pos
  | succ i =>
    have h := acc_len t hp (i + 1)
    have e : acc hs p (i + 1) = acc hs p i ++ lev hs p (i + 1) := rfl
    rw [e, List.length_append] at h
    omega
theorem next_ties (hs : List Nat) (p i : Nat) : ((lev hs p i).flatMap fun a => (kids hs a).map fun b => (b, a)) = withUp hs (lev hs p (i + 1)) := by
  show _ = ((lev hs p i).flatMap (kids hs)).map _
  rw [List.map_flatMap]
  congr 1
  funext a
  refine List.map_congr_left fun b hb => ?_
  rw [(kids_mem.mp hb).2.2]
/-- pairs in order, each first item once -/
def ltPr (x y : Nat × Nat) : Prop := x.1 < y.1 ∨ (x.1 = y.1 ∧ x.2 < y.2)
theorem ties_sorted {hs : List Nat} {p d : Nat} {ys : List (Nat × Nat)} (t : IsTree hs) (hp : p ≤ hs.length) (h1 : ys.Perm (withUp hs (acc hs p d))) (h2 : ys.Pairwise fun x y => ¬ ltPr y x) : ys = tiesN hs d p := by
  refine (h1.trans ((acc_perm t hp d).map _)).eq_of_pairwise (le := fun x y => ¬ ltPr y x) (fun a b _ _ k1 k2 => ?_) h2 ?_
  · unfold ltPr at k1 k2
    refine Prod.ext ?_ ?_ <;> omega
  · show ((near hs d p).map fun b => (b, up hs b)).Pairwise _
    unfold near
    rw [List.pairwise_map]
    refine List.Pairwise.filter _ ((List.pairwise_lt_range' (s := 1) (n := hs.length)).imp fun {a b} hab => ?_)
    unfold ltPr
    show ¬ (b < a ∨ _ ∧ _)
    omega
/-! what is told otherwise -/
def telD (hs gs : List Nat) (u d p : Nat) : Bool := decide (wayN hs u p = wayN gs u p) && decide (tiesN hs d p = tiesN gs d p)
def unlikeN (hs gs : List Nat) (u d : Nat) : List Nat := (List.range (hs.length + 1)).filter fun p => !telD hs gs u d p
theorem telD_iff {hs gs : List Nat} {u d p : Nat} : telD hs gs u d p = true ↔ wayN hs u p = wayN gs u p ∧ tiesN hs d p = tiesN gs d p := by
  unfold telD
  rw [Bool.and_eq_true, decide_eq_true_eq, decide_eq_true_eq]
theorem telD_self (hs : List Nat) (u d p : Nat) : telD hs hs u d p = true := telD_iff.mpr ⟨rfl, rfl⟩
theorem telD_comm (hs gs : List Nat) (u d p : Nat) : telD hs gs u d p = telD gs hs u d p := by
  rw [Bool.eq_iff_iff, telD_iff, telD_iff]
  exact ⟨fun h => ⟨h.1.symm, h.2.symm⟩, fun h => ⟨h.1.symm, h.2.symm⟩⟩
theorem unlike_mem {hs gs : List Nat} {u d p : Nat} : p ∈ unlikeN hs gs u d ↔ p ≤ hs.length ∧ telD hs gs u d p = false := by
  unfold unlikeN
  rw [List.mem_filter, List.mem_range, Bool.not_eq_true', Nat.lt_succ_iff]
theorem unlike_len (hs gs : List Nat) (u d : Nat) : (unlikeN hs gs u d).length ≤ hs.length + 1 := by
  refine Nat.le_trans (List.length_filter_le _ _) ?_
  rw [List.length_range]
  exact Nat.le_refl _
theorem unlike_self (hs : List Nat) (u d : Nat) : unlikeN hs hs u d = [] := by
  refine List.filter_eq_nil_iff.mpr fun p _ h => ?_
  rw [telD_self] at h
  cases h
theorem unlike_comm {hs gs : List Nat} (hl : hs.length = gs.length) (u d : Nat) : unlikeN hs gs u d = unlikeN gs hs u d := by
  unfold unlikeN
  rw [hl]
  refine List.filter_congr fun p _ => ?_
  rw [telD_comm]
theorem unlike_sorted (hs gs : List Nat) (u d : Nat) : (unlikeN hs gs u d).Pairwise (· < ·) := List.Pairwise.filter _ List.pairwise_lt_range
theorem ties_mem {hs : List Nat} {d p : Nat} {x : Nat × Nat} : x ∈ tiesN hs d p ↔ x.1 ≤ hs.length ∧ p ∈ wayN hs d x.1 ∧ x.2 = up hs x.1 := by
  unfold tiesN withUp
  rw [List.mem_map]
  constructor
  · rintro ⟨b, hb, rfl⟩
    have := near_mem.mp hb
    exact ⟨this.1, this.2, rfl⟩
  · rintro ⟨h1, h2, h3⟩
    exact ⟨x.1, near_mem.mpr ⟨h1, h2⟩, Prod.ext rfl h3.symm⟩
theorem ties_eq {hs gs : List Nat} {d p : Nat} (hl : hs.length = gs.length) : tiesN hs d p = tiesN gs d p ↔ ∀ b, b ≤ hs.length → (p ∈ wayN hs d b ↔ p ∈ wayN gs d b) ∧ (p ∈ wayN hs d b → up hs b = up gs b) := by
  constructor
  · intro e b hb
    have k1 : p ∈ wayN hs d b → p ∈ wayN gs d b ∧ up hs b = up gs b := fun h => by
      have := (ties_mem (x := (b, up hs b))).mpr ⟨hb, h, rfl⟩
      rw [e] at this
      have := ties_mem.mp this
      exact ⟨this.2.1, this.2.2⟩
    have k2 : p ∈ wayN gs d b → p ∈ wayN hs d b := fun h => by
      have := (ties_mem (hs := gs) (x := (b, up gs b))).mpr ⟨by rw [← hl]; exact hb, h, rfl⟩
      rw [← e] at this
      exact (ties_mem.mp this).2.1
    exact ⟨⟨fun h => (k1 h).1, k2⟩, fun h => (k1 h).2⟩
  · intro h
    have en : near hs d p = near gs d p := by
      unfold near
      rw [← hl]
      refine List.filter_congr fun b hb => ?_
      have := List.mem_range'_1.mp hb
      rw [Bool.eq_iff_iff, decide_eq_true_eq, decide_eq_true_eq]
      exact (h b (by omega)).1
    unfold tiesN withUp
    rw [← en]
    refine List.map_congr_left fun b hb => ?_
    have := near_mem.mp hb
    rw [(h b this.1).2 this.2]
/-- a block hung elsewhere -/
theorem moved_seen {hs : List Nat} {b q u d : Nat} (hb : 1 ≤ b) (hb2 : b ≤ hs.length) (hq : up hs b ≠ q) : (0 < u → telD hs (put hs b q) u d b = false) ∧ (0 < d → telD hs (put hs b q) u d (up hs b) = false ∧ telD hs (put hs b q) u d q = false) := by
  have eb : up (put hs b q) b = q := by rw [up_put hb hb2, if_pos rfl]
  have b0 : b ≠ 0 := by omega
  refine ⟨fun hu => ?_, fun hd => ⟨?_, ?_⟩⟩
  · refine Bool.eq_false_iff.mpr fun h => ?_
    have e := (telD_iff.mp h).1
    obtain ⟨u, rfl⟩ : ∃ u', u = u' + 1 := ⟨u - 1, by omega⟩
    rw [wayN_cons _ _ b0, wayN_cons _ _ b0, eb] at e
    exact hq (List.cons.inj e).1
  · refine Bool.eq_false_iff.mpr fun h => ?_
    have e := (telD_iff.mp h).2
    obtain ⟨d, rfl⟩ : ∃ d', d = d' + 1 := ⟨d - 1, by omega⟩
    have := (ties_mem (hs := hs) (d := d + 1) (p := up hs b) (x := (b, up hs b))).mpr ⟨hb2, by rw [wayN_cons _ _ b0]; exact List.mem_cons_self, rfl⟩
    rw [e] at this
    have := (ties_mem.mp this).2.2
    rw [eb] at this
    exact hq this
  · refine Bool.eq_false_iff.mpr fun h => ?_
    have e := (telD_iff.mp h).2
    obtain ⟨d, rfl⟩ : ∃ d', d = d' + 1 := ⟨d - 1, by omega⟩
    have := (ties_mem (hs := put hs b q) (d := d + 1) (p := q) (x := (b, q))).mpr ⟨by rw [put_len]; exact hb2, by rw [wayN_cons _ _ b0, eb]; exact List.mem_cons_self, eb.symm⟩
    rw [← e] at this
    exact hq (ties_mem.mp this).2.2.symm
theorem way_sub {hs : List Nat} {d d' k x : Nat} (h : d ≤ d') (hx : x ∈ wayN hs d k) : x ∈ wayN hs d' k := by
  obtain ⟨j, h1, h2, h3⟩ := (way_mem _ _ _ _).mp hx
  exact (way_mem _ _ _ _).mpr ⟨j, by omega, h2, h3⟩
/-- a greater view tells no less -/
theorem wider {hs gs : List Nat} {u u' d d' p : Nat} (t : IsTree hs) (t' : IsTree gs) (hl : hs.length = gs.length) (hu : u ≤ u') (hd : d ≤ d') (h : telD hs gs u' d' p = true) : telD hs gs u d p = true := by
  obtain ⟨e1, e2⟩ := telD_iff.mp h
  refine telD_iff.mpr ⟨?_, (ties_eq hl).mpr ?_⟩
  · have := congrArg (List.take u) e1
    rwa [wayN_take, wayN_take, Nat.min_eq_left hu] at this
  · have key : ∀ (xs ys : List Nat), IsTree xs → xs.length = ys.length → tiesN xs d' p = tiesN ys d' p → ∀ d, d ≤ d' → ∀ b, b ≤ xs.length → p ∈ wayN xs d b → p ∈ wayN ys d b ∧ up xs b = up ys b := by
      intro xs ys tx el e d
      induction d with
      | zero =>
        intro _ b _ hx
        cases hx
      | succ d ih =>
        intro hd b hb hx
        have b0 : b ≠ 0 := fun z => by
          rw [z, wayN_nil] at hx
          cases hx
        have hu := ((ties_eq el).mp e b hb).2 (way_sub hd hx)
        refine ⟨?_, hu⟩
        rw [wayN_cons _ _ b0] at hx ⊢
        rw [← hu]
        rcases List.mem_cons.mp hx with hx | hx
        · rw [hx]
          exact List.mem_cons_self
        · exact List.mem_cons_of_mem _ (ih (by omega) _ (up_le tx.le b) hx).1
    intro b hb
    have k1 := key hs gs t hl e2 d hd b hb
    have k2 := key gs hs t' hl.symm e2.symm d hd b (by rw [← hl]; exact hb)
    exact ⟨⟨fun h => (k1 h).1, fun h => (k2 h).1⟩, fun h => (k1 h).2⟩
/-! called anew -/
theorem wayN_called {hs ms : List Nat} (t : IsTree hs) (o : IsOrd hs.length ms) : ∀ n k, k ≤ hs.length → wayN (call2 hs ms) n (up ms k) = (wayN hs n k).map (up ms)
  | 0, _, _ => rfl
  | n + 1, k, hk => by
    by_cases h : k = 0
    · rw [h, up_zero, wayN_nil, wayN_nil]
      rfl
    · have r := o.rg (k := k) (by omega) hk
      rw [wayN_cons _ _ h, wayN_cons _ _ (by omega), call2_up o hk, wayN_called t o n _ (up_le t.le k)]
      rfl
theorem map_inj_on {ms : List Nat} {n : Nat} (o : IsOrd n ms) : ∀ {xs ys : List Nat}, (∀ x ∈ xs, x ≤ n) → (∀ y ∈ ys, y ≤ n) → xs.map (up ms) = ys.map (up ms) → xs = ys
  | [], [], _, _, _ => rfl
  | [], _ :: _, _, _, e => by cases e
  | _ :: _, [], _, _, e => by cases e
  | x :: xs, y :: ys, hx, hy, e => by
    rw [List.map_cons, List.map_cons] at e
    obtain ⟨e1, e2⟩ := List.cons.inj e
    rw [o.inj (hx x List.mem_cons_self) (hy y List.mem_cons_self) e1, map_inj_on o (fun z hz => hx z (List.mem_cons_of_mem _ hz)) (fun z hz => hy z (List.mem_cons_of_mem _ hz)) e2]
theorem mem_called {hs ms : List Nat} (t : IsTree hs) (o : IsOrd hs.length ms) {d p b : Nat} (hp : p ≤ hs.length) (hb : b ≤ hs.length) : up ms p ∈ wayN (call2 hs ms) d (up ms b) ↔ p ∈ wayN hs d b := by
  rw [wayN_called t o d b hb, List.mem_map]
  constructor
  · rintro ⟨x, hx, e⟩
    rw [← o.inj (wayN_le t.le hx) hp e]
    exact hx
  · exact fun h => ⟨p, h, rfl⟩
theorem telD_called {hs gs ms : List Nat} (t : IsTree hs) (t' : IsTree gs) (hl : hs.length = gs.length) (o : IsOrd hs.length ms) {u d p : Nat} (hp : p ≤ hs.length) : telD (call2 hs ms) (call2 gs ms) u d (up ms p) = telD hs gs u d p := by
  have o' : IsOrd gs.length ms := by
    rw [← hl]
    exact o
  have hp' : p ≤ gs.length := by rw [← hl]; exact hp
  rw [Bool.eq_iff_iff, telD_iff, telD_iff, ties_eq hl, ties_eq (by rw [call2_len, call2_len, hl]), wayN_called t o u p hp, wayN_called t' o' u p hp', call2_len]
  have e1 : ((wayN hs u p).map (up ms) = (wayN gs u p).map (up ms)) ↔ wayN hs u p = wayN gs u p :=
    ⟨fun e => map_inj_on o (fun x hx => wayN_le t.le hx) (fun x hx => by rw [hl]; exact wayN_le t'.le hx) e, fun e => by rw [e]⟩
  rw [e1]
  refine and_congr_right fun _ => ⟨fun h b hb => ?_, fun h c hc => ?_⟩
  · have := h (up ms b) (o.rg0 hb)
    rw [mem_called t o hp hb, mem_called t' o' hp' (by rw [← hl]; exact hb), call2_up o hb, call2_up o' (by rw [← hl]; exact hb)] at this
    exact ⟨this.1, fun hw => o.inj (up_le t.le b) (by rw [hl]; exact up_le t'.le b) (this.2 hw)⟩
  · obtain ⟨b, hb, rfl⟩ : ∃ b, b ≤ hs.length ∧ up ms b = c := by
      by_cases c0 : c = 0
      · exact ⟨0, by omega, c0.symm⟩
      · obtain ⟨k, _, k2, k3⟩ := o.surj (x := c) (by omega) hc
        exact ⟨k, k2, k3⟩
    rw [mem_called t o hp hb, mem_called t' o' hp' (by rw [← hl]; exact hb), call2_up o hb, call2_up o' (by rw [← hl]; exact hb)]
    have := h b hb
    exact ⟨this.1, fun hw => by rw [this.2 hw]⟩
theorem unlike_called {hs gs ms : List Nat} (t : IsTree hs) (t' : IsTree gs) (hl : hs.length = gs.length) (o : IsOrd hs.length ms) {u d : Nat} : ((unlikeN hs gs u d).map (up ms)).Perm (unlikeN (call2 hs ms) (call2 gs ms) u d) := by
  refine (List.perm_ext_iff_of_nodup ?_ ((unlike_sorted _ _ _ _).imp fun {a b} h => Nat.ne_of_lt h)).mpr fun c => ?_
  · refine List.pairwise_map.mpr ((List.Pairwise.and_mem.mp (unlike_sorted hs gs u d)).imp fun {a b} h e => ?_)
    have := o.inj (unlike_mem.mp h.1).1 (unlike_mem.mp h.2.1).1 e
    have := h.2.2
    omega
  · rw [List.mem_map, unlike_mem, call2_len]
    constructor
    · rintro ⟨p, hp, rfl⟩
      have := unlike_mem.mp hp
      exact ⟨o.rg0 this.1, by rw [telD_called t t' hl o this.1]; exact this.2⟩
    · rintro ⟨h1, h2⟩
      obtain ⟨b, hb, rfl⟩ : ∃ b, b ≤ hs.length ∧ up ms b = c := by
        by_cases c0 : c = 0
        · exact ⟨0, by omega, c0.symm⟩
        · obtain ⟨k, _, k2, k3⟩ := o.surj (x := c) (by omega) h1
          exact ⟨k, k2, k3⟩
      rw [telD_called t t' hl o hb] at h2
      exact ⟨b, unlike_mem.mpr ⟨hb, h2⟩, rfl⟩
end Fv
/-! the first fact, and twins -/
namespace Fv
def dist (u d : Nat) : Nat := (if 0 < d then d + 1 else 0) + if 0 < u then 1 else 0
theorem nodup_sub : ∀ {xs ys : List Nat}, xs.Nodup → (∀ x ∈ xs, x ∈ ys) → xs.length ≤ ys.length
  | [], _, _, _ => Nat.zero_le _
  | x :: xs, ys, hn, h => by
    have hx := h x List.mem_cons_self
    have hn2 := List.nodup_cons.mp hn
    have ih := nodup_sub (xs := xs) (ys := ys.erase x) hn2.2 fun z hz => by
      have hne : z ≠ x := fun e => hn2.1 (by rw [← e]; exact hz)
      exact (List.mem_erase_of_ne hne).mpr (h z (List.mem_cons_of_mem _ hz))
    rw [List.length_erase_of_mem hx] at ih
    have : 0 < ys.length := List.length_pos_of_mem hx
    rw [List.length_cons]
    omega
/-- those above a block that hangs otherwise tell so -/
theorem chain_apart {hs gs : List Nat} {u d b : Nat} (hb : b ≤ hs.length) (b0 : b ≠ 0) (ne : up hs b ≠ up gs b) (h0 : telD hs gs u d 0 = true) : ∀ i, i ≤ d → upN hs i b ≠ 0 ∧ (1 ≤ i → telD hs gs u d (upN hs i b) = false)
  | 0, _ => ⟨b0, fun h => absurd h (by omega)⟩
  | i + 1, hi => by
    have ih := (chain_apart hb b0 ne h0 i (by omega)).1
    have f : telD hs gs u d (upN hs (i + 1) b) = false := by
      refine Bool.eq_false_iff.mpr fun h => ?_
      have e := (telD_iff.mp h).2
      have m := (ties_mem (hs := hs) (d := d) (p := upN hs (i + 1) b) (x := (b, up hs b))).mpr ⟨hb, (way_mem _ _ _ _).mpr ⟨i, by omega, ih, rfl⟩, rfl⟩
      rw [e] at m
      exact ne (ties_mem.mp m).2.2
    refine ⟨fun z => ?_, fun _ => f⟩
    rw [z, h0] at f
    cases f
theorem up_inj_chain {hs : List Nat} (t : IsTree hs) {b i j : Nat} (hb : b ≤ hs.length) (hij : i < j) (nz : upN hs i b ≠ 0) : upN hs i b ≠ upN hs j b := fun e => by
  refine no_ring t (upN_le t.le i b hb) nz (m := j - i) (by omega) ?_
  rw [← upN_add, show i + (j - i) = j by omega]
  exact e.symm
theorem least_block {hs gs : List Nat} (t : IsTree hs) (hl : hs.length = gs.length) (ne : hs ≠ gs) : ∃ b, b ≤ hs.length ∧ b ≠ 0 ∧ up hs b ≠ up gs b ∧ ∀ i, 1 ≤ i → up hs (upN hs i b) = up gs (upN hs i b) := by
  have ex : ∃ b, 1 ≤ b ∧ b ≤ hs.length ∧ up hs b ≠ up gs b := by
    exact Classical.byContradiction fun h => ne (same_ups hl fun k h1 h2 => Classical.byContradiction fun h3 => h ⟨k, h1, h2, h3⟩)
  have go : ∀ j, (∃ b, 1 ≤ b ∧ b ≤ hs.length ∧ up hs b ≠ up gs b ∧ upN hs j b = 0) → ∃ b, b ≤ hs.length ∧ b ≠ 0 ∧ up hs b ≠ up gs b ∧ ∀ i, 1 ≤ i → up hs (upN hs i b) = up gs (upN hs i b) := by
    intro j
    induction j using Nat.strongRecOn with
    | ind j ih =>
      rintro ⟨b, b1, b2, b3, b4⟩
      by_cases h : ∃ i, 1 ≤ i ∧ up hs (upN hs i b) ≠ up gs (upN hs i b)
      · obtain ⟨i, i1, i2⟩ := h
        have nz : upN hs i b ≠ 0 := fun z => i2 (by rw [z]; rfl)
        have hij : i < j := Nat.lt_of_not_le fun hle => nz (upN_more b4 hle)
        refine ih (j - i) (by omega) ⟨upN hs i b, by omega, upN_le t.le i b b2, i2, ?_⟩
        rw [← upN_add, show i + (j - i) = j by omega]
        exact b4
      · exact ⟨b, b2, by omega, b3, fun i h1 => Classical.byContradiction fun h2 => h ⟨i, h1, h2⟩⟩
  obtain ⟨b, b1, b2, b3⟩ := ex
  exact go hs.length ⟨b, b1, b2, b3, t.comes b b2⟩
theorem same_chain {hs gs : List Nat} {x : Nat} (h : ∀ i, up hs (upN hs i x) = up gs (upN hs i x)) : ∀ i, upN gs i x = upN hs i x
  | 0 => rfl
  | i + 1 => by rw [upN_succ, upN_succ, same_chain h i, h i]
theorem first_fact {hs gs : List Nat} {u d : Nat} (t : IsTree hs) (t' : IsTree gs) (hl : hs.length = gs.length) (ne : hs ≠ gs) (h0 : telD hs gs u d 0 = true) : dist u d ≤ (unlikeN hs gs u d).length := by
  obtain ⟨b, hb, b0, hne, hup⟩ := least_block t hl ne
  have hb' : b ≤ gs.length := by rw [← hl]; exact hb
  have A := chain_apart hb b0 hne h0
  have C := chain_apart (hs := gs) (gs := hs) hb' b0 hne.symm (by rw [telD_comm]; exact h0)
  have memA : ∀ i, 1 ≤ i → i ≤ d → upN hs i b ∈ unlikeN hs gs u d := fun i h1 h2 => unlike_mem.mpr ⟨upN_le t.le i b hb, (A i h2).2 h1⟩
  have memC : ∀ i, 1 ≤ i → i ≤ d → upN gs i b ∈ unlikeN hs gs u d := fun i h1 h2 => unlike_mem.mpr ⟨by rw [hl]; exact upN_le t'.le i b hb', by rw [telD_comm]; exact (C i h2).2 h1⟩
  -- those of the ties
  have ties : ∃ L : List Nat, L.Nodup ∧ (∀ x ∈ L, x ∈ unlikeN hs gs u d) ∧ b ∉ L ∧ L.length = if 0 < d then d + 1 else 0 := by
    by_cases hd : 0 < d
    · have nodA : ((List.range d).map fun i => upN hs (i + 1) b).Nodup := by
        refine List.pairwise_map.mpr ((List.Pairwise.and_mem.mp (List.pairwise_lt_range (n := d))).imp fun {i j} h e => ?_)
        obtain ⟨hi, hj, hij⟩ := h
        rw [List.mem_range] at hi hj
        exact up_inj_chain t hb (show i + 1 < j + 1 by omega) (A (i + 1) (by omega)).1 e
      have inA : ∀ x ∈ (List.range d).map fun i => upN hs (i + 1) b, ∃ i, 1 ≤ i ∧ i ≤ d ∧ x = upN hs i b := fun x hx => by
        obtain ⟨i, hi, rfl⟩ := List.mem_map.mp hx
        rw [List.mem_range] at hi
        exact ⟨i + 1, by omega, by omega, rfl⟩
      have bA : ∀ i, 1 ≤ i → i ≤ d + 1 → b ≠ upN hs i b := fun i h1 h2 => up_inj_chain t hb (i := 0) (by omega) b0
      have key : ∃ e, e ∈ unlikeN hs gs u d ∧ e ∉ ((List.range d).map fun i => upN hs (i + 1) b) ∧ b ≠ e := by
        by_cases hc : up gs b ∈ (List.range d).map fun i => upN hs (i + 1) b
        · obtain ⟨j, j1, j2, ej⟩ := inA _ hc
          have j3 : 2 ≤ j := by
            refine Nat.lt_of_not_le fun h => hne ?_
            have : j = 1 := by omega
            subst this
            exact ej.symm
          have hch := same_chain (hs := hs) (gs := gs) (x := upN hs j b) fun i => by
            rw [← upN_add]
            exact hup (j + i) (by omega)
          have ee : upN hs (d + 1) b = upN gs (d + 2 - j) b := by
            have e1 : upN hs (d + 1) b = upN hs (d + 1 - j) (upN hs j b) := by rw [← upN_add, show j + (d + 1 - j) = d + 1 by omega]
            rw [e1, ← hch, ← ej, show d + 2 - j = 1 + (d + 1 - j) by omega, upN_add]
            rfl
          refine ⟨upN hs (d + 1) b, by rw [ee]; exact memC _ (by omega) (by omega), fun hx => ?_, bA (d + 1) (by omega) (by omega)⟩
          obtain ⟨i, i1, i2, ei⟩ := inA _ hx
          exact up_inj_chain t hb (show i < d + 1 by omega) (A i i2).1 ei.symm
        · refine ⟨up gs b, memC 1 (by omega) hd, hc, fun e => ?_⟩
          exact no_ring t' hb' b0 (m := 1) (by omega) e.symm
      obtain ⟨e, e1, e2, e3⟩ := key
      refine ⟨e :: (List.range d).map fun i => upN hs (i + 1) b, List.nodup_cons.mpr ⟨e2, nodA⟩, fun x hx => ?_, fun hx => ?_, ?_⟩
      · rcases List.mem_cons.mp hx with rfl | hx
        · exact e1
        · obtain ⟨i, i1, i2, rfl⟩ := inA x hx
          exact memA i i1 i2
      · rcases List.mem_cons.mp hx with h | hx
        · exact e3 h
        · obtain ⟨i, i1, i2, ei⟩ := inA b hx
          exact bA i i1 (by omega) ei
      · rw [if_pos hd, List.length_cons, List.length_map, List.length_range]
    · exact ⟨[], List.Pairwise.nil, (fun x h => by cases h), (fun h => by cases h), by rw [if_neg hd]; rfl⟩
  obtain ⟨L, l1, l2, l3, l4⟩ := ties
  unfold dist
  rw [← l4]
  by_cases hu : 0 < u
  · rw [if_pos hu]
    have mb : b ∈ unlikeN hs gs u d := by
      refine unlike_mem.mpr ⟨hb, Bool.eq_false_iff.mpr fun h => ?_⟩
      have e := (telD_iff.mp h).1
      obtain ⟨u, rfl⟩ : ∃ u', u = u' + 1 := ⟨u - 1, by omega⟩
      rw [wayN_cons _ _ b0, wayN_cons _ _ b0] at e
      exact hne (List.cons.inj e).1
    have := nodup_sub (xs := b :: L) (ys := unlikeN hs gs u d) (List.nodup_cons.mpr ⟨l3, l1⟩) fun x hx => by
      rcases List.mem_cons.mp hx with rfl | hx
      · exact mb
      · exact l2 x hx
    rwa [List.length_cons] at this
  · rw [if_neg hu]
    exact nodup_sub l1 l2
/-! twins: a row of d + 1, and one block more under its last but one, or its last -/
def twin (n d y : Nat) : List Nat := List.range (d + 1) ++ y :: List.replicate (n - d - 2) 0
theorem twin_len {n d y : Nat} (h : d + 2 ≤ n) : (twin n d y).length = n := by
  unfold twin
  rw [List.length_append, List.length_range, List.length_cons, List.length_replicate]
  omega
theorem twin_up {n d y : Nat} (h : d + 2 ≤ n) (k : Nat) : up (twin n d y) k = if k ≤ d + 1 then k - 1 else if k = d + 2 then y else 0 := by
  by_cases h0 : k = 0
  · subst h0
    rw [if_pos (by omega)]
    rfl
  · unfold up
    rw [if_neg h0, List.getD_eq_getElem?_getD]
    unfold twin
    by_cases h1 : k ≤ d + 1
    · rw [if_pos h1, List.getElem?_append_left (by rw [List.length_range]; omega), List.getElem?_range (by omega)]
      rfl
    · rw [if_neg h1, List.getElem?_append_right (by rw [List.length_range]; omega), List.length_range]
      by_cases h2 : k = d + 2
      · subst h2
        rw [if_pos rfl, show d + 2 - 1 - (d + 1) = 0 by omega]
        rfl
      · rw [if_neg h2, show k - 1 - (d + 1) = (k - d - 3) + 1 by omega, List.getElem?_cons_succ, List.getElem?_replicate]
        split <;> rfl
theorem twin_row {n d y : Nat} (h : d + 2 ≤ n) {k : Nat} (hk : k ≤ d + 1) : ∀ j, upN (twin n d y) j k = k - j
  | 0 => rfl
  | j + 1 => by rw [upN_succ, twin_row h hk j, twin_up h, if_pos (by omega)]; omega
theorem twin_last {n d y : Nat} (h : d + 2 ≤ n) (hy : y ≤ d + 1) (j : Nat) : upN (twin n d y) (j + 1) (d + 2) = y - j := by
  show upN (twin n d y) j (up (twin n d y) (d + 2)) = _
  rw [twin_up h, if_neg (by omega), if_pos rfl, twin_row h hy]
theorem twin_rest {n d y k : Nat} (h : d + 2 ≤ n) (hk : d + 2 < k) : up (twin n d y) k = 0 := by
  rw [twin_up h, if_neg (by omega), if_neg (by omega)]
theorem twin_tree {n d y : Nat} (h : d + 2 ≤ n) (hn : n ≤ 40) (hy : y ≤ d + 1) : IsTree (twin n d y) := by
  have hle : ∀ x ∈ twin n d y, x ≤ (twin n d y).length := fun x hx => by
    rw [twin_len h]
    unfold twin at hx
    rcases List.mem_append.mp hx with hx | hx
    · rw [List.mem_range] at hx
      omega
    · rcases List.mem_cons.mp hx with rfl | hx
      · omega
      · rw [(List.mem_replicate.mp hx).2]
        exact Nat.zero_le _
  refine ⟨by rw [twin_len h]; omega, by rw [twin_len h]; exact hn, hle, fun k hk => ?_⟩
  by_cases h1 : k ≤ d + 1
  · exact comes_by (j := k) hle hk (by rw [twin_row h h1]; omega)
  · by_cases h2 : k = d + 2
    · subst h2
      exact comes_by (j := d + 1 + 1) hle hk (by rw [twin_last h hy]; omega)
    · exact comes_by (j := 1) hle hk (twin_rest h (by omega))
theorem twin_ne {n d : Nat} (h : d + 2 ≤ n) : twin n d d ≠ twin n d (d + 1) := fun e => by
  have a := twin_up (y := d) h (d + 2)
  have b := twin_up (y := d + 1) h (d + 2)
  rw [if_neg (by omega), if_pos rfl] at a b
  rw [e, b] at a
  omega
/-- but the last but one, all hang alike -/
theorem twin_alike {n d k : Nat} (h : d + 2 ≤ n) (hk : k ≠ d + 2) : up (twin n d d) k = up (twin n d (d + 1)) k := by
  rw [twin_up h, twin_up h, if_neg hk, if_neg hk]
theorem twin_up_ne {n d y : Nat} (h : d + 2 ≤ n) (hy : y ≤ d + 1) (k : Nat) : up (twin n d y) k ≠ d + 2 := by
  rw [twin_up h]
  split
  · omega
  · split <;> omega
theorem twin_way {n d : Nat} (h : d + 2 ≤ n) : ∀ m k, k ≠ d + 2 → wayN (twin n d d) m k = wayN (twin n d (d + 1)) m k
  | 0, _, _ => rfl
  | m + 1, k, hk => by
    by_cases h0 : k = 0
    · rw [h0, wayN_nil, wayN_nil]
    · rw [wayN_cons _ _ h0, wayN_cons _ _ h0, ← twin_alike h hk, twin_way h m _ (twin_up_ne h (by omega) k)]
theorem twin_last_way {n d y m p : Nat} (h : d + 2 ≤ n) (hy : y ≤ d + 1) (hm : m ≤ y) : p ∈ wayN (twin n d y) m (d + 2) ↔ p ≤ y ∧ y < p + m := by
  rw [way_mem]
  constructor
  · rintro ⟨j, h1, h2, h3⟩
    rw [twin_last h hy] at h3
    omega
  · rintro ⟨h1, h2⟩
    refine ⟨y - p, by omega, ?_, by rw [twin_last h hy]; omega⟩
    cases e : y - p with
    | zero =>
      show d + 2 ≠ 0
      omega
    | succ j =>
      rw [twin_last h hy]
      omega
theorem twin_tel {n d u p : Nat} (h : d + 2 ≤ n) : telD (twin n d d) (twin n d (d + 1)) u d p = true ↔ ¬ ((0 < d ∧ 1 ≤ p ∧ p ≤ d + 1) ∨ (0 < u ∧ p = d + 2)) := by
  rw [telD_iff, ties_eq (by rw [twin_len h, twin_len h]), twin_len h]
  have up1 : up (twin n d d) (d + 2) = d := by rw [twin_up h, if_neg (by omega), if_pos rfl]
  have up2 : up (twin n d (d + 1)) (d + 2) = d + 1 := by rw [twin_up h, if_neg (by omega), if_pos rfl]
  have w1 := twin_last_way (n := n) (y := d) (m := d) (p := p) h (by omega) (by omega)
  have w2 := twin_last_way (n := n) (y := d + 1) (m := d) (p := p) h (by omega) (by omega)
  constructor
  · rintro ⟨e1, e2⟩ (⟨k1, k2, k3⟩ | ⟨k1, rfl⟩)
    · obtain ⟨f1, f2⟩ := e2 (d + 2) h
      rw [w1, w2] at f1
      rw [w1, up1, up2] at f2
      by_cases hp : p ≤ d
      · have := f2 ⟨hp, by omega⟩
        omega
      · have := f1.mpr ⟨by omega, by omega⟩
        omega
    · obtain ⟨u, rfl⟩ : ∃ u', u = u' + 1 := ⟨u - 1, by omega⟩
      rw [wayN_cons _ _ (by omega), wayN_cons _ _ (by omega), up1, up2] at e1
      have := (List.cons.inj e1).1
      omega
  · intro hn
    refine ⟨?_, fun b hb => ?_⟩
    · by_cases hp : p = d + 2
      · have u0 : u = 0 := by
          refine Nat.eq_zero_of_not_pos fun hu => hn (.inr ⟨hu, hp⟩)
        rw [u0]
        rfl
      · exact twin_way h u p hp
    · by_cases hb2 : b = d + 2
      · subst hb2
        rw [w1, w2]
        have : ¬ (0 < d ∧ 1 ≤ p ∧ p ≤ d + 1) := fun z => hn (.inl z)
        constructor
        · omega
        · intro z
          omega
      · rw [twin_way h d b hb2, twin_alike h hb2]
        exact ⟨Iff.rfl, fun _ => rfl⟩
theorem twin_unlike {n d u : Nat} (h : d + 2 ≤ n) : (unlikeN (twin n d d) (twin n d (d + 1)) u d).length = dist u d := by
  have e : (unlikeN (twin n d d) (twin n d (d + 1)) u d).Perm (List.range' 1 (if 0 < d then d + 1 else 0) ++ if 0 < u then [d + 2] else []) := by
    refine (List.perm_ext_iff_of_nodup ((unlike_sorted _ _ _ _).imp fun {a b} h => Nat.ne_of_lt h) ?_).mpr fun p => ?_
    · refine List.nodup_append.mpr ⟨List.nodup_range', ?_, fun x hx y hy e => ?_⟩
      · split
        · exact List.pairwise_singleton _ _
        · exact List.Pairwise.nil
      · have h1 := List.mem_range'_1.mp hx
        split at hy
        · have h2 := List.mem_singleton.mp hy
          split at h1 <;> omega
        · cases hy
    · rw [unlike_mem, twin_len h, List.mem_append, List.mem_range'_1]
      have k := twin_tel (u := u) (p := p) h
      rw [← Bool.not_eq_true, k, Decidable.not_not]
      by_cases hd : 0 < d
      · by_cases hu : 0 < u
        · rw [if_pos hd, if_pos hu, List.mem_singleton]
          omega
        · rw [if_pos hd, if_neg hu]
          simp only [List.not_mem_nil, or_false]
          omega
      · by_cases hu : 0 < u
        · rw [if_neg hd, if_pos hu, List.mem_singleton]
          omega
        · rw [if_neg hd, if_neg hu]
          simp only [List.not_mem_nil, or_false]
          omega
  rw [e.length_eq, List.length_append, List.length_range']
  unfold dist
  congr 1
  split <;> rfl
theorem twin_head {n d u : Nat} (h : d + 2 ≤ n) : telD (twin n d d) (twin n d (d + 1)) u d 0 = true := (twin_tel h).mpr (by omega)
end Fv
/-! all trees of so many blocks, and all pairs of them -/
namespace Fv
def rowsN (n : Nat) : Nat → List (List Nat)
  | 0 => [[]]
  | b + 1 => (rowsN n b).flatMap fun r => ((List.range (n + 1)).filter fun p => decide (p ≠ b + 1)).map fun p => r ++ [p]
def isT (hs : List Nat) : Bool := (List.range' 1 hs.length).all fun k => decide (upN hs hs.length k = 0)
def allTrees (n : Nat) : List (List Nat) := (rowsN n n).filter isT
theorem rows_mem (n : Nat) : ∀ b (r : List Nat), r ∈ rowsN n b ↔ r.length = b ∧ ∀ (i x : Nat), r[i]? = some x → x ≤ n ∧ x ≠ i + 1
  | 0, r => by
    show r ∈ [[]] ↔ _
    rw [List.mem_singleton]
    constructor
    · rintro rfl
      exact ⟨rfl, fun i x h => by cases h⟩
    · exact fun h => List.eq_nil_of_length_eq_zero h.1
  | b + 1, r => by
    show r ∈ (rowsN n b).flatMap _ ↔ _
    rw [List.mem_flatMap]
    constructor
    · rintro ⟨s, hs, hr⟩
      obtain ⟨p, hp, rfl⟩ := List.mem_map.mp hr
      obtain ⟨l1, l2⟩ := (rows_mem n b s).mp hs
      rw [List.mem_filter, List.mem_range, decide_eq_true_eq] at hp
      refine ⟨by rw [List.length_append, l1]; rfl, fun i x h => ?_⟩
      by_cases hi : i < s.length
      · rw [List.getElem?_append_left hi] at h
        exact l2 i x h
      · have hl := (List.getElem?_eq_some_iff.mp h).1
        rw [List.length_append] at hl
        have hl : i < s.length + 1 := hl
        have e : i = s.length := by omega
        subst e
        rw [List.getElem?_append_right (Nat.le_refl _), Nat.sub_self] at h
        have e2 : p = x := Option.some.inj h
        subst e2
        rw [l1]
        exact ⟨by omega, hp.2⟩
    · rintro ⟨l1, l2⟩
      have hne : r ≠ [] := fun e => by
        rw [e] at l1
        cases l1
      have hd := List.dropLast_concat_getLast hne
      have ll : r.dropLast.length = b := by rw [List.length_dropLast, l1]; rfl
      have hlast : r[b]? = some (r.getLast hne) := by
        rw [List.getLast_eq_getElem, ← List.getElem?_eq_getElem]
        congr 1
        omega
      refine ⟨r.dropLast, (rows_mem n b _).mpr ⟨ll, fun i x h => ?_⟩, List.mem_map.mpr ⟨r.getLast hne, ?_, hd⟩⟩
      · have hi := (List.getElem?_eq_some_iff.mp h).1
        refine l2 i x ?_
        rw [← hd, List.getElem?_append_left hi]
        exact h
      · rw [List.mem_filter, List.mem_range, decide_eq_true_eq]
        have := l2 b _ hlast
        exact ⟨by omega, this.2⟩
theorem rows_nodup (n : Nat) : ∀ b, (rowsN n b).Nodup
  | 0 => List.pairwise_singleton _ _
  | b + 1 => by
    show ((rowsN n b).flatMap _).Nodup
    refine List.pairwise_flatMap.mpr ⟨fun r _ => ?_, (rows_nodup n b).imp fun {r s} hrs x hx y hy e => hrs ?_⟩
    · refine List.pairwise_map.mpr ((List.Pairwise.filter _ (List.nodup_range (n := n + 1))).imp fun {p q} hpq e => hpq ?_)
      have := List.append_cancel_left e
      exact (List.cons.inj this).1
    · obtain ⟨p, _, rfl⟩ := List.mem_map.mp hx
      obtain ⟨q, _, rfl⟩ := List.mem_map.mp hy
      exact (List.append_inj' e rfl).1
theorem rows_len (n : Nat) : ∀ b, (rowsN n b).length ≤ (n + 1) ^ b
  | 0 => Nat.le_refl _
  | b + 1 => by
    show ((rowsN n b).flatMap _).length ≤ _
    rw [List.length_flatMap]
    have h : ∀ m : List (List Nat), (m.map fun r => (((List.range (n + 1)).filter fun p => decide (p ≠ b + 1)).map fun p => r ++ [p]).length).sum ≤ m.length * (n + 1) := fun m => by
      induction m with
      | nil => exact Nat.zero_le _
      | cons r m ih =>
        rw [List.map_cons, List.sum_cons, List.length_map, List.length_cons, Nat.add_mul, Nat.one_mul]
        have := List.length_filter_le (fun p => decide (p ≠ b + 1)) (List.range (n + 1))
        rw [List.length_range] at this
        omega
    refine Nat.le_trans (h _) ?_
    rw [Nat.pow_succ]
    exact Nat.mul_le_mul_right _ (rows_len n b)
theorem all_mem {n : Nat} (h1 : 1 ≤ n) (h2 : n ≤ 40) {hs : List Nat} : hs ∈ allTrees n ↔ hs.length = n ∧ IsTree hs := by
  unfold allTrees
  rw [List.mem_filter, rows_mem]
  unfold isT
  rw [List.all_eq_true]
  constructor
  · rintro ⟨⟨l1, l2⟩, c⟩
    have hle : ∀ x ∈ hs, x ≤ hs.length := fun x hx => by
      obtain ⟨i, hi, e⟩ := List.getElem_of_mem hx
      rw [l1]
      exact (l2 i x (by rw [List.getElem?_eq_getElem hi, e])).1
    refine ⟨l1, by omega, by omega, hle, fun k hk => ?_⟩
    by_cases h0 : k = 0
    · rw [h0]
      exact upN_zero hs _
    · exact of_decide_eq_true (c k (List.mem_range'_1.mpr (by omega)))
  · rintro ⟨l1, t⟩
    refine ⟨⟨l1, fun i x hx => ⟨?_, fun e => ?_⟩⟩, fun k hk => decide_eq_true (t.comes k (by have := List.mem_range'_1.mp hk; omega))⟩
    · rw [← l1]
      exact t.le x (List.mem_of_getElem? hx)
    · have hi := (List.getElem?_eq_some_iff.mp hx).1
      refine no_ring t (k := i + 1) (m := 1) (by omega) (by omega) (by omega) ?_
      show up hs (i + 1) = i + 1
      rw [up_at (by omega) (by rw [Nat.add_sub_cancel]; exact hx), e]
theorem all_nodup (n : Nat) : (allTrees n).Nodup := List.Pairwise.filter _ (rows_nodup n n)
theorem all_len (n : Nat) : (allTrees n).length ≤ (n + 1) ^ n := Nat.le_trans (List.length_filter_le _ _) (rows_len n n)
/-- how many tell otherwise, for all pairs whose heads tell alike -/
def foundI (T : List (List Nat)) (u d i : Nat) : List Nat := ((List.range i).filter fun j => telD (T.getD j []) (T.getD i []) u d 0).map fun j => (unlikeN (T.getD i []) (T.getD j []) u d).length
def foundN (T : List (List Nat)) (u d i : Nat) : List Nat := (List.range i).flatMap fun k => foundI T u d k
theorem foundN_succ (T : List (List Nat)) (u d i : Nat) : foundN T u d (i + 1) = foundN T u d i ++ foundI T u d i := by
  unfold foundN
  rw [List.range_succ, List.flatMap_append]
  simp
theorem foundI_len (T : List (List Nat)) (u d i : Nat) : (foundI T u d i).length ≤ i := by
  unfold foundI
  rw [List.length_map]
  refine Nat.le_trans (List.length_filter_le _ _) ?_
  rw [List.length_range]
  exact Nat.le_refl _
theorem foundN_len (T : List (List Nat)) (u d : Nat) : ∀ i, (foundN T u d i).length ≤ i * i
  | 0 => Nat.le_refl _
  | i + 1 => by
    rw [foundN_succ, List.length_append]
    have := foundN_len T u d i
    have := foundI_len T u d i
    have e : (i + 1) * (i + 1) = i * i + i + i + 1 := by rw [Nat.add_mul, Nat.mul_add]; omega
    omega
theorem found_mem {T : List (List Nat)} {u d m x : Nat} : x ∈ foundN T u d m ↔ ∃ i j, j < i ∧ i < m ∧ telD (T.getD j []) (T.getD i []) u d 0 = true ∧ x = (unlikeN (T.getD i []) (T.getD j []) u d).length := by
  unfold foundN foundI
  rw [List.mem_flatMap]
  constructor
  · rintro ⟨i, hi, hx⟩
    obtain ⟨j, hj, rfl⟩ := List.mem_map.mp hx
    rw [List.mem_filter, List.mem_range] at hj
    exact ⟨i, j, hj.1, List.mem_range.mp hi, hj.2, rfl⟩
  · rintro ⟨i, j, h1, h2, h3, rfl⟩
    exact ⟨i, List.mem_range.mpr h2, List.mem_map.mpr ⟨j, List.mem_filter.mpr ⟨List.mem_range.mpr h1, h3⟩, rfl⟩⟩
theorem getD_mem {T : List (List Nat)} {i : Nat} (h : i < T.length) : T.getD i [] ∈ T := by
  rw [List.getD_eq_getElem?_getD, List.getElem?_eq_getElem h]
  exact List.getElem_mem h
theorem found_least {n u d x : Nat} (h1 : 1 ≤ n) (h2 : n ≤ 40) (hx : x ∈ foundN (allTrees n) u d (allTrees n).length) : dist u d ≤ x := by
  obtain ⟨i, j, hij, hi, ht, rfl⟩ := found_mem.mp hx
  have mi := (all_mem h1 h2).mp (getD_mem hi)
  have mj := (all_mem h1 h2).mp (getD_mem (show j < (allTrees n).length by omega))
  refine first_fact mi.2 mj.2 (by rw [mi.1, mj.1]) (fun e => ?_) (by rw [telD_comm]; exact ht)
  rw [List.getD_eq_getElem?_getD, List.getD_eq_getElem?_getD, List.getElem?_eq_getElem hi, List.getElem?_eq_getElem (show j < (allTrees n).length by omega)] at e
  have := (List.getElem_inj (h₀ := hi) (h₁ := show j < (allTrees n).length by omega) (all_nodup n)).mp e
  omega
theorem found_twins {n u d : Nat} (h2 : n ≤ 40) (h : d + 2 ≤ n) : dist u d ∈ foundN (allTrees n) u d (allTrees n).length := by
  have h1 : 1 ≤ n := by omega
  have ma := (all_mem h1 h2).mpr ⟨twin_len (y := d) h, twin_tree h h2 (by omega)⟩
  have mb := (all_mem h1 h2).mpr ⟨twin_len (y := d + 1) h, twin_tree h h2 (by omega)⟩
  obtain ⟨a, ha, ea⟩ := List.getElem_of_mem ma
  obtain ⟨b, hb, eb⟩ := List.getElem_of_mem mb
  have ga : (allTrees n).getD a [] = twin n d d := by
    rw [List.getD_eq_getElem?_getD, List.getElem?_eq_getElem ha]
    exact ea
  have gb : (allTrees n).getD b [] = twin n d (d + 1) := by
    rw [List.getD_eq_getElem?_getD, List.getElem?_eq_getElem hb]
    exact eb
  rcases Nat.lt_trichotomy a b with hab | hab | hab
  · refine found_mem.mpr ⟨b, a, hab, hb, by rw [ga, gb]; exact twin_head h, ?_⟩
    rw [ga, gb, unlike_comm (by rw [twin_len h, twin_len h]), twin_unlike h]
  · subst hab
    rw [ga] at gb
    exact (twin_ne h gb).elim
  · refine found_mem.mpr ⟨a, b, hab, ha, by rw [ga, gb, telD_comm]; exact twin_head h, ?_⟩
    rw [ga, gb, twin_unlike h]
end Fv
set_option maxRecDepth 100000
set_option maxHeartbeats 4000000
namespace Fv
open PySem PySem.Spec PyProof.Rows L2
section
variable {K : PySem.W.Frag} {σ : L2.St} {H H' H1 H2 : Hp} {i : Nat} {v x y : V} {Q : VK} {D : Ends} {t u : TS} {te ta tb : TE} {tt tt2 : TT} {a b p q : Addr} {o o' : HO} {xs ys : List V}
theorem x_seq (h : t { D with nx := u D } σ H) : tSeq t u D σ H := h
theorem x_next (h : D.nx σ H) : tNext D σ H := h
theorem x_drop (h : te σ H fun _ H1 => D.nx σ H1) : tDrop te D σ H := h
theorem x_ret (h : te σ H D.rt) : tRet te D σ H := h
theorem x_retN (h : D.rt .non H) : tRetN D σ H := h
theorem x_ifs (h : tt σ H fun b H1 => if b = true then t D σ H1 else u D σ H1) : tIfS tt t u D σ H := h
theorem x_asg {g : TG} (h : te σ H fun x H1 => g x σ H1 D.nx) : tAsg te g D σ H := h
theorem x_gname {R : L2.St → Hp → Prop} (h : R (σ.set i (some v)) H) : gName i v σ H R := h
theorem x_gsub {to ti : TE} {s : TSet} {R : L2.St → Hp → Prop} (h : to σ H fun o H1 => ti σ H1 fun i H2 => s o i v H2 fun H3 => R σ H3) : gSub to ti s v σ H R := h
theorem x_gtup {n : Nat} {g : TGs} {R : L2.St → Hp → Prop} (h : SqT K H a xs) (hl : xs.length = n) (q : g xs σ H R) : gTup K n g (.ref a) σ H R := ⟨a, xs, rfl, h, hl, q⟩
theorem x_gcons {g : TG} {gs : TGs} {R : L2.St → Hp → Prop} (h : g x σ H fun σ' H' => gs xs σ' H' R) : gCons g gs (x :: xs) σ H R := ⟨x, xs, rfl, h⟩
theorem x_gnil {R : L2.St → Hp → Prop} (h : R σ H) : gNil [] σ H R := ⟨rfl, h⟩
theorem x_var (h : σ[i]? = some (some v)) (q : Q v H) : tVar i σ H Q := ⟨v, h, q⟩
theorem x_c (q : Q v H) : tC v σ H Q := q
theorem x_op {r : R2} (h : ta σ H fun x H1 => tb σ H1 fun y H2 => r x y H2 Q) : tOp r ta tb σ H Q := h
theorem x_un {r : V → Hp → VK → Prop} (h : ta σ H fun x H1 => r x H1 Q) : tUn r ta σ H Q := h
theorem x_i0 {g : Int → Int → V} {i j : Int} (q : Q (g i j) H) : rI0 g (.int i) (.int j) H Q := ⟨i, j, rfl, rfl, q⟩
theorem x_i {C : Int → Int → Prop} {g : Int → Int → V} {i j : Int} (c : C i j) (q : Q (g i j) H) : rI C g (.int i) (.int j) H Q := ⟨i, j, rfl, rfl, c, q⟩
theorem x_u {g : Int → V} {i : Int} (q : Q (g i) H) : rU g (.int i) H Q := ⟨i, rfl, q⟩
theorem x_eq (h : scal x y = true) (q : Q (.bl (decide (x = y))) H) : rEq x y H Q := ⟨h, q⟩
theorem x_ne (h : scal x y = true) (q : Q (.bl (!decide (x = y))) H) : rNe x y H Q := ⟨h, q⟩
theorem x_eqI {i j : Int} (q : Q (.bl (decide (i = j))) H) : rEq (.int i) (.int j) H Q := ⟨rfl, by
  have e : decide (V.int i = V.int j) = decide (i = j) := by
    rw [Bool.eq_iff_iff]
    simp
  rw [e]
  exact q⟩
theorem x_neI {i j : Int} (q : Q (.bl (decide (i ≠ j))) H) : rNe (.int i) (.int j) H Q := ⟨rfl, by
  have e : (!decide (V.int i = V.int j)) = decide (i ≠ j) := by
    rw [Bool.eq_iff_iff]
    simp
  rw [e]
  exact q⟩
theorem x_ixL {i : Int} (h : SqL K H p xs) (ha : atI xs i = some v) (q : Q v H) : rIxL K (.ref p) (.int i) H Q := ⟨p, xs, i, v, rfl, rfl, h, ha, q⟩
theorem x_ixT {i : Int} (h : SqT K H p xs) (ha : atI xs i = some v) (q : Q v H) : rIxT K (.ref p) (.int i) H Q := ⟨p, xs, i, v, rfl, rfl, h, ha, q⟩
theorem x_setL {i : Int} {j : Nat} {R : Hp → Prop} (h : H p = some (.lst xs)) (hi : ixN xs.length i = some j) (q : R (upd H p (.lst (xs.set j v)))) : rSetL (.ref p) (.int i) v H R := ⟨p, xs, i, j, rfl, rfl, h, hi, q⟩
theorem x_test {R : Bool → Hp → Prop} (h : te σ H fun x H' => ∃ k, x = .bl k ∧ R k H') : tTest te σ H R := h
theorem x_b {R : Bool → Hp → Prop} (h : te σ H fun x H1 => ∃ c, x = .bl c ∧ R c H1) : tB te σ H R := h
theorem x_isb {c : Bool} {R : Bool → Prop} (h : R c) : ∃ k, V.bl c = .bl k ∧ R k := ⟨c, rfl, h⟩
theorem x_isi {c : Int} {R : Int → Prop} (h : R c) : ∃ k, V.int c = .int k ∧ R k := ⟨c, rfl, h⟩
theorem x_and {R : Bool → Hp → Prop} (h : tt σ H fun c H1 => if c = true then tt2 σ H1 R else R false H1) : tAnd tt tt2 σ H R := h
theorem x_or {R : Bool → Hp → Prop} (h : tt σ H fun c H1 => if c = true then R true H1 else tt2 σ H1 R) : tOr tt tt2 σ H R := h
theorem x_not {R : Bool → Hp → Prop} (h : tt σ H fun c H1 => R (!c) H1) : tNot tt σ H R := h
theorem x_andV (h : ta σ H fun x H1 => ∃ c, x = .bl c ∧ if c = true then tb σ H1 Q else Q (.bl false) H1) : tAndV ta tb σ H Q := h
theorem x_orV (h : ta σ H fun x H1 => ∃ c, x = .bl c ∧ if c = true then Q (.bl true) H1 else tb σ H1 Q) : tOrV ta tb σ H Q := h
theorem x_notV (h : ta σ H fun x H1 => ∃ c, x = .bl c ∧ Q (.bl (!c)) H1) : tNotV ta σ H Q := h
theorem x_ifx (h : tt σ H fun c H1 => if c = true then ta σ H1 Q else tb σ H1 Q) : tIf tt ta tb σ H Q := h
theorem x_nil {R : List V → Hp → Prop} (q : R [] H) : tNil σ H R := q
theorem x_cons {tr : TA} {R : List V → Hp → Prop} (h : te σ H fun x H1 => tr σ H1 fun xs H2 => R (x :: xs) H2) : tCons te tr σ H R := h
theorem x_cb {r : List V → Hp → VK → Prop} {ts : TA} (h : ts σ H fun vs H1 => r vs H1 Q) : tCB r ts σ H Q := h
theorem x_call {sp : Sp} {dvs : List V} {E : XK} {ts : TA} (h : ts σ H fun vs H1 => sp (vs ++ dvs) H1 Q E) : tCall sp dvs E ts σ H Q := h
theorem x_lst {ts : TA} (h : ts σ H fun xs H1 => xs.length ≤ sizeLine ∧ ∀ p, H1 p = none → Q (.ref p) (upd H1 p (.lst xs))) : tLst ts σ H Q := h
theorem x_tup {ts : TA} (h : ts σ H fun xs H1 => xs.length ≤ sizeLine ∧ ∀ p, H1 p = none → Q (.ref p) (upd H1 p (.tup xs))) : tTup ts σ H Q := h
theorem x_sl {r : V → Option Int → Option Int → Hp → VK → Prop} {tl th : TO} (h : te σ H fun x H1 => tl σ H1 fun l H2 => th σ H2 fun u H3 => r x l u H3 Q) : tSl r te tl th σ H Q := h
theorem x_nopart {R : Option Int → Hp → Prop} (h : R none H) : tNoPart σ H R := h
theorem x_part {R : Option Int → Hp → Prop} (h : te σ H fun x H1 => ∃ i, x = .int i ∧ R (some i) H1) : tPart te σ H R := h
theorem x_slL {lo hi : Option Int} (h : SqL K H a xs) (q : ∀ p, H p = none → Q (.ref p) (upd H p (.lst (cutV xs lo hi)))) : rSlL K (.ref a) lo hi H Q := ⟨a, xs, rfl, h, q⟩
theorem x_bm {T : String} {r : V → List V → Hp → VK → Prop} {ts : TA} (h : te σ H fun x H1 => tyV K T x H1 ∧ ts σ H1 fun xs H2 => r x xs H2 Q) : tBM K T r te ts σ H Q := h
theorem x_bm0 {T : String} {r : V → List V → Hp → VK → Prop} (h : te σ H fun x H1 => tyV K T x H1 ∧ r x [] H1 Q) : tBM0 K T r te σ H Q := h
theorem x_append (h : H p = some (.lst xs)) (hl : xs.length < sizeLine) (q : Q .non (upd H p (.lst (xs ++ [v])))) : rAppend (.ref p) [v] H Q := ⟨p, xs, v, rfl, rfl, h, hl, q⟩
theorem x_fld {C dx : Addr} {fs : List (Str × V)} {f : Str} (h : te σ H fun x H1 => ∃ a C dx fs v, x = .ref a ∧ H1 a = some (.ins C dx fs) ∧ Cls K C ∧ NoAttr K C f ∧ fs.lookup f = some v ∧ Q v H1) : tFld K te f σ H Q := h
theorem x_par {j : Nat} {ts : TA} (h : ts σ H fun vs H1 => ∃ v w, vs = [v, w] ∧ D.nx ((σ.set i (some v)).set j (some w)) H1) : tPar i j ts D σ H := h
theorem x_par2 {R : V → V → Prop} (h : R x y) : ∃ v w, [x, y] = [v, w] ∧ R v w := ⟨x, y, rfl, h⟩
theorem x_chain {r r' : R2} {tc : TE} (h : ta σ H fun x H1 => tb σ H1 fun y H2 => r x y H2 fun z H3 => ∃ k, z = .bl k ∧ (if k = true then tc σ H3 fun w' H4 => r' y w' H4 Q else Q (.bl false) H3)) : tChain r r' ta tb tc σ H Q := h
theorem x_aug {ti : TIp} (h : σ[i]? = some (some x)) (q : te σ H fun y H1 => ti x y H1 fun z H2 => D.nx (σ.set i (some z)) H2) : tAug i te ti D σ H := ⟨x, h, q⟩
theorem x_ipI {f : Int → Int → Int} {i j : Int} (q : Q (.int (f i j)) H) : ipI f (.int i) (.int j) H Q := ⟨i, j, rfl, rfl, q⟩
theorem x_ilist {R : It → Hp → Prop} {tl : TE} (h : tl σ H fun x H1 => ∃ a, x = .ref a ∧ (∃ xs, SqL K H1 a xs) ∧ R (Itl K a) H1) : iList K tl σ H R := h
theorem x_itup {R : It → Hp → Prop} {tl : TE} (h : tl σ H fun x H1 => ∃ a, x = .ref a ∧ (∃ xs, SqT K H1 a xs) ∧ R (Itt K a) H1) : iTup K tl σ H R := h
theorem x_isseq {A : List V → Prop} {R : Addr → Prop} (h : A xs) (q : R a) : ∃ b, V.ref a = .ref b ∧ (∃ xs, A xs) ∧ R b := ⟨a, rfl, ⟨xs, h⟩, q⟩
theorem x_rng1 {R : It → Hp → Prop} {ts : TA} (h : ts σ H fun vs H1 => ∃ j : Int, vs = [.int j] ∧ -(2 ^ 62) ≤ j ∧ j < 2 ^ 62 ∧ R (Itr 0 j.toNat) H1) : iRng1 ts σ H R := h
theorem x_rng2 {R : It → Hp → Prop} {ts : TA} (h : ts σ H fun vs H1 => ∃ i j : Int, vs = [.int i, .int j] ∧ (-(2 ^ 62) ≤ i ∧ i < 2 ^ 62 ∧ -(2 ^ 62) ≤ j ∧ j < 2 ^ 62) ∧ R (Itr i (j - i).toNat) H1) : iRng2 ts σ H R := h
theorem x_is1 {j : Int} {P1 P2 : Int → Prop} {R : Int → Prop} (h1 : P1 j) (h2 : P2 j) (q : R j) : ∃ k : Int, [V.int j] = [.int k] ∧ P1 k ∧ P2 k ∧ R k := ⟨j, rfl, h1, h2, q⟩
theorem x_is2 {i j : Int} {P1 : Int → Int → Prop} {R : Int → Int → Prop} (h1 : P1 i j) (q : R i j) : ∃ k l : Int, [V.int i, V.int j] = [.int k, .int l] ∧ P1 k l ∧ R k l := ⟨i, j, rfl, h1, q⟩
theorem x_yes {R : Bool → Hp → Prop} (h : R true H) : tYes σ H R := h
def rLen (K : PySem.W.Frag) : List V → Hp → VK → Prop := fun xs H Q => ∃ p ys, xs = [.ref p] ∧ (SqL K H p ys ∨ SqT K H p ys) ∧ Q (.int ys.length) H
def rInt : List V → Hp → VK → Prop := fun xs H Q => (∃ i, xs = [.int i] ∧ Q (.int i) H) ∨ ∃ k, xs = [.bl k] ∧ Q (.int (if k then 1 else 0)) H
def rAbs : List V → Hp → VK → Prop := fun xs H Q => ∃ i, xs = [.int i] ∧ Q (.int (if i < 0 then -i else i)) H
def rListOf (K : PySem.W.Frag) : List V → Hp → VK → Prop := fun xs H Q => ∃ p ys, xs = [.ref p] ∧ (SqL K H p ys ∨ SqT K H p ys) ∧ ∀ l, H l = none → Q (.ref l) (upd H l (.lst ys))
def rTupOf (K : PySem.W.Frag) : List V → Hp → VK → Prop := fun xs H Q => ∃ p ys, xs = [.ref p] ∧ ((SqL K H p ys ∧ ∀ l, H l = none → Q (.ref l) (upd H l (.tup ys))) ∨ (SqT K H p ys ∧ Q (.ref p) H))
theorem call_len {X : Cx} : CallR X (.builtin "len") (rLen X.K) := call_len_seq
theorem call_int {X : Cx} : CallR X (.type "int") rInt := call_int1
theorem call_ab {X : Cx} : CallR X (.builtin "abs") rAbs := call_abs
theorem call_lst {X : Cx} : CallR X (.type "list") (rListOf X.K) := call_list_of
theorem call_tpl {X : Cx} : CallR X (.type "tuple") (rTupOf X.K) := call_tuple_of
theorem x_lenL (h : SqL K H p xs) (q : Q (.int xs.length) H) : rLen K [.ref p] H Q := ⟨p, xs, rfl, .inl h, q⟩
theorem x_lenT (h : SqT K H p xs) (q : Q (.int xs.length) H) : rLen K [.ref p] H Q := ⟨p, xs, rfl, .inr h, q⟩
theorem x_int1 {j : Int} (q : Q (.int j) H) : rInt [.int j] H Q := .inl ⟨j, rfl, q⟩
theorem x_abs {j : Int} (q : Q (.int (if j < 0 then -j else j)) H) : rAbs [.int j] H Q := ⟨j, rfl, q⟩
theorem x_listL (h : SqL K H p xs) (q : ∀ l, H l = none → Q (.ref l) (upd H l (.lst xs))) : rListOf K [.ref p] H Q := ⟨p, xs, rfl, .inl h, q⟩
theorem x_listT (h : SqT K H p xs) (q : ∀ l, H l = none → Q (.ref l) (upd H l (.lst xs))) : rListOf K [.ref p] H Q := ⟨p, xs, rfl, .inr h, q⟩
theorem x_tupL (h : SqL K H p xs) (q : ∀ l, H l = none → Q (.ref l) (upd H l (.tup xs))) : rTupOf K [.ref p] H Q := ⟨p, xs, rfl, .inl ⟨h, q⟩⟩
theorem x_tupT (h : SqT K H p xs) (q : Q (.ref p) H) : rTupOf K [.ref p] H Q := ⟨p, xs, rfl, .inr ⟨h, q⟩⟩
theorem x_isd {c : Prop} [Decidable c] {A B : Prop} (h1 : c → A) (h2 : ¬ c → B) : if decide c = true then A else B := by
  by_cases h : c
  · rw [if_pos (decide_eq_true h)]
    exact h1 h
  · rw [if_neg (by rw [decide_eq_false h]; exact Bool.false_ne_true)]
    exact h2 h
theorem x_isdT {c : Prop} [Decidable c] {A B : Prop} (h : c) (h1 : A) : if decide c = true then A else B := x_isd (fun _ => h1) fun n => (n h).elim
theorem x_isdF {c : Prop} [Decidable c] {A B : Prop} (h : ¬ c) (h1 : B) : if decide c = true then A else B := x_isd (fun n => (h n).elim) fun _ => h1
theorem x_nF {A B : Prop} (h : A) : if (!false) = true then A else B := iteT h
theorem x_nT {A B : Prop} (h : B) : if (!true) = true then A else B := iteF h
theorem lp_range {g : TG} {tb : TS} {nx : L2.St → Hp → Prop} {rt : VK} {σ : L2.St} {H : Hp} {lo : Int} {n : Nat} (Pv : Nat → L2.St → Hp → Prop) (h0 : Pv 0 σ H) (hs : ∀ i σ H, i < n → Pv i σ H → g (.int (lo + i)) σ H fun σ2 H2 => tb { nx := Pv (i + 1), rt := rt, bk := nx, ct := Pv (i + 1) } σ2 H2) (hd : ∀ σ H, Pv n σ H → nx σ H) :
    ∃ W : Nat → Nat → L2.St → Hp → Prop, (∃ m, W 0 m σ H) ∧ ∀ i m σ H, W i m σ H → ((Itr lo n).stop i H ∧ nx σ H) ∨ ((Itr lo n).go i H ∧ ∃ N : L2.St → Hp → Prop, (∀ σ' H', N σ' H' → ∃ m', m' < m ∧ W (i + 1) m' σ' H') ∧ ∀ x H', (Itr lo n).yld i H x H' → g x σ H' fun σ2 H2 => tb { nx := N, rt := rt, bk := nx, ct := N } σ2 H2) :=
  for_range (D := { nx := nx, rt := rt}) Pv h0 hs hd
theorem lp_list {g : TG} {tb : TS} {nx : L2.St → Hp → Prop} {rt : VK} {σ : L2.St} {H : Hp} {K : PySem.W.Frag} {a : Addr} {xs : List V} (Pv : Nat → L2.St → Hp → Prop) (h0 : Pv 0 σ H) (hl : ∀ i σ H, i ≤ xs.length → Pv i σ H → SqL K H a xs) (hs : ∀ i x σ H, xs[i]? = some x → Pv i σ H → g x σ H fun σ2 H2 => tb { nx := Pv (i + 1), rt := rt, bk := nx, ct := Pv (i + 1) } σ2 H2) (hd : ∀ σ H, Pv xs.length σ H → nx σ H) :
    ∃ W : Nat → Nat → L2.St → Hp → Prop, (∃ m, W 0 m σ H) ∧ ∀ i m σ H, W i m σ H → ((Itl K a).stop i H ∧ nx σ H) ∨ ((Itl K a).go i H ∧ ∃ N : L2.St → Hp → Prop, (∀ σ' H', N σ' H' → ∃ m', m' < m ∧ W (i + 1) m' σ' H') ∧ ∀ x H', (Itl K a).yld i H x H' → g x σ H' fun σ2 H2 => tb { nx := N, rt := rt, bk := nx, ct := N } σ2 H2) :=
  for_list (D := { nx := nx, rt := rt}) Pv h0 hl hs hd
theorem lp_tup {g : TG} {tb : TS} {nx : L2.St → Hp → Prop} {rt : VK} {σ : L2.St} {H : Hp} {K : PySem.W.Frag} {a : Addr} {xs : List V} (Pv : Nat → L2.St → Hp → Prop) (h0 : Pv 0 σ H) (hl : ∀ i σ H, i ≤ xs.length → Pv i σ H → SqT K H a xs) (hs : ∀ i x σ H, xs[i]? = some x → Pv i σ H → g x σ H fun σ2 H2 => tb { nx := Pv (i + 1), rt := rt, bk := nx, ct := Pv (i + 1) } σ2 H2) (hd : ∀ σ H, Pv xs.length σ H → nx σ H) :
    ∃ W : Nat → Nat → L2.St → Hp → Prop, (∃ m, W 0 m σ H) ∧ ∀ i m σ H, W i m σ H → ((Itt K a).stop i H ∧ nx σ H) ∨ ((Itt K a).go i H ∧ ∃ N : L2.St → Hp → Prop, (∀ σ' H', N σ' H' → ∃ m', m' < m ∧ W (i + 1) m' σ' H') ∧ ∀ x H', (Itt K a).yld i H x H' → g x σ H' fun σ2 H2 => tb { nx := N, rt := rt, bk := nx, ct := N } σ2 H2) :=
  for_tup (D := { nx := nx, rt := rt}) Pv h0 hl hs hd
/-! heaps -/
theorem keepN (h : H a = some o) (hp : H p = none) : upd H p o' a = some o := by
  rw [upd_ne (ne_of_none h hp)]
  exact h
theorem keepM (n : a ≠ p) (h : H a = some o) : upd H p o' a = some o := by
  rw [upd_ne n]
  exact h
theorem keepLM (n : a ≠ p) (h : SqL K H a xs) : SqL K (upd H p o') a xs := by
  rcases h with (h | ⟨u, h⟩) | h
  · exact .inl (.inl (keepM n h))
  · exact .inl (.inr ⟨u, keepM n h⟩)
  · exact .inr h
theorem keepLN (h : SqL K H a xs) (hp : H p = none) : SqL K (upd H p o') a xs := by
  rcases h with (h | ⟨u, h⟩) | h
  · exact .inl (.inl (keepN h hp))
  · exact .inl (.inr ⟨u, keepN h hp⟩)
  · exact .inr h
theorem keepTM (n : a ≠ p) (h : SqT K H a xs) : SqT K (upd H p o') a xs := by
  rcases h with (h | ⟨u, h⟩) | h
  · exact .inl (.inl (keepM n h))
  · exact .inl (.inr ⟨u, keepM n h⟩)
  · exact .inr h
theorem keepTN (h : SqT K H a xs) (hp : H p = none) : SqT K (upd H p o') a xs := by
  rcases h with (h | ⟨u, h⟩) | h
  · exact .inl (.inl (keepN h hp))
  · exact .inl (.inr ⟨u, keepN h hp⟩)
  · exact .inr h
theorem _root_.L2.Same.seqT {K : PySem.W.Frag} {H H' : Hp} {a : Addr} {xs : List V} (e : Same H H') (h : SqT K H a xs) : SqT K H' a xs := by
  rcases h with (h | ⟨o, h⟩) | h
  · exact .inl (.inl (e _ _ h))
  · exact .inl (.inr ⟨o, e _ _ h⟩)
  · exact .inr h
theorem same_new (s : Same H H1) (hp : H1 p = none) : Same H (upd H1 p o) := fun b u e => keepN (s b u e) hp
theorem same_mut (s : Same H H1) (hp : H p = none) : Same H (upd H1 p o) := fun b u e => keepM (ne_of_none e hp) (s b u e)
/-- all but what stands at p is as it was -/
def But (p : Addr) (H H' : Hp) : Prop := ∀ b o, b ≠ p → H b = some o → H' b = some o
theorem But.refl (p : Addr) (H : Hp) : But p H H := fun _ _ _ h => h
theorem But.trans (a : But p H H1) (b : But p H1 H2) : But p H H2 := fun c o n h => b c o n (a c o n h)
theorem But.of (s : Same H H1) : But p H H1 := fun b o _ h => s b o h
theorem But.new (s : But p H H1) (hq : H1 q = none) : But p H (upd H1 q o) := fun b u n e => keepN (s b u n e) hq
theorem But.mut (s : But p H H1) : But p H (upd H1 p o) := fun b u n e => keepM n (s b u n e)
theorem But.mutF (s : But p H H1) (hq : H q = none) : But p H (upd H1 q o) := fun b u n e => keepM (ne_of_none e hq) (s b u n e)
theorem But.seq (s : But p H H1) (n : a ≠ p) (h : SqL K H a xs) : SqL K H1 a xs := by
  rcases h with (h | ⟨o, h⟩) | h
  · exact .inl (.inl (s _ _ n h))
  · exact .inl (.inr ⟨o, s _ _ n h⟩)
  · exact .inr h
theorem But.seqT (s : But p H H1) (n : a ≠ p) (h : SqT K H a xs) : SqT K H1 a xs := by
  rcases h with (h | ⟨o, h⟩) | h
  · exact .inl (.inl (s _ _ n h))
  · exact .inl (.inr ⟨o, s _ _ n h⟩)
  · exact .inr h
theorem But.same (s : But p H H1) (hp : H p = none) : Same H H1 := fun b o e => s b o (ne_of_none e hp) e
end
theorem same_trans {H H1 H2 : Hp} (b : Same H1 H2) (a : Same H H1) : Same H H2 := Same.trans a b
theorem but_trans {H H1 H2 : Hp} {p : Addr} (b : But p H1 H2) (a : But p H H1) : But p H H2 := But.trans a b
theorem ne_none' {H : Hp} {a b : Addr} {o : HO} (h' : H b = none) (h : H a = some o) : b ≠ a := Ne.symm (ne_of_none h h')
theorem cut1 (xs : List V) : cutV xs (some 1) none = xs.drop 1 := by
  unfold cutV
  rw [show HT.sIx xs.length 0 (some 1) = min 1 xs.length from HT.sIx_nat xs.length 0 1, HT.sIx_none]
  cases xs with
  | nil => rfl
  | cons x r =>
    rw [show min 1 (x :: r).length = 1 by
      rw [List.length_cons]
      omega]
    show (List.take ((x :: r).length - 1) r) = r
    rw [List.length_cons, Nat.add_sub_cancel]
    exact List.take_length
theorem at_mod {xs : List V} {z : Int} (h : 0 < xs.length) : ∃ v, atI xs (z % (xs.length : Int)) = some v ∧ v ∈ xs := by
  have h1 : 0 ≤ z % (xs.length : Int) := Int.emod_nonneg _ (by omega)
  have h2 : z % (xs.length : Int) < xs.length := Int.emod_lt_of_pos _ (by omega)
  obtain ⟨j, hj⟩ := Int.eq_ofNat_of_zero_le h1
  have hl : j < xs.length := by omega
  refine ⟨xs[j], ?_, List.getElem_mem hl⟩
  rw [hj]
  exact atI_nat (List.getElem?_eq_getElem hl)
theorem at_lt {xs : List V} {d : Int} (h1 : 0 ≤ d) (h2 : d < xs.length) : ∃ v, atI xs d = some v ∧ v ∈ xs := by
  obtain ⟨j, hj⟩ := Int.eq_ofNat_of_zero_le h1
  have hl : j < xs.length := by omega
  refine ⟨xs[j], ?_, List.getElem_mem hl⟩
  rw [hj]
  exact atI_nat (List.getElem?_eq_getElem hl)
/-- a def that is called by its name -/
structure Cal (K : PySem.W.Frag) (mg : Str → Option Value) (x : Str) (f : Addr) (fd : FuncData) (ps : List Str) : Prop where
  g : mg x = some (.ref f)
  k : PySem.W.keepIn K (.ref f) = true
  b : Binds K fd ps []
theorem szLe {n : Nat} (h : n ≤ 100000) : n ≤ sizeLine := Nat.le_trans h (by decide)
theorem szLt {n : Nat} (h : n < 100000) : n < sizeLine := Nat.lt_of_lt_of_le h (by decide)
end Fv
set_option maxRecDepth 100000
set_option maxHeartbeats 1000000
namespace Fv
open PySem PySem.Spec L2
/-- a value of a kind that is known -/
def Kn (H : Hp) : V → Prop
  | .non => True
  | .bl _ => True
  | .int _ => True
  | .str _ => True
  | .ref a => (∃ xs, H a = some (.lst xs)) ∨ (∃ xs, H a = some (.tup xs)) ∨ ∃ kvs, H a = some (.dK kvs)
  | _ => False
theorem Kn.same {H H' : Hp} {x : V} (s : Same H H') (h : Kn H x) : Kn H' x := by
  cases x with
  | ref a =>
    rcases h with ⟨xs, h⟩ | ⟨xs, h⟩ | ⟨xs, h⟩
    · exact .inl ⟨xs, s _ _ h⟩
    · exact .inr (.inl ⟨xs, s _ _ h⟩)
    · exact .inr (.inr ⟨xs, s _ _ h⟩)
  | _ => exact h
theorem Kn.but {H H' : Hp} {p : Addr} {x : V} (s : But p H H') (hp : x ≠ .ref p) (h : Kn H x) : Kn H' x := by
  cases x with
  | ref a =>
    have n : a ≠ p := fun e => hp (by rw [e])
    rcases h with ⟨xs, h⟩ | ⟨xs, h⟩ | ⟨xs, h⟩
    · exact .inl ⟨xs, s _ _ n h⟩
    · exact .inr (.inl ⟨xs, s _ _ n h⟩)
    · exact .inr (.inr ⟨xs, s _ _ n h⟩)
  | _ => exact h
def isIntV : V → Bool
  | .int _ => true
  | .bl _ => true
  | _ => false
def isBlV : V → Bool
  | .bl _ => true
  | _ => false
def numV (lo hi : Int) : V → Bool
  | .int i => decide (lo ≤ i) && decide (i ≤ hi)
  | _ => false
theorem numT {lo hi i : Int} (c : lo ≤ i) : numV lo hi (.int i) = decide (i ≤ hi) := by
  show (decide (lo ≤ i) && decide (i ≤ hi)) = _
  rw [decide_eq_true c]
  rfl
theorem numF {lo hi i : Int} (c : ¬ lo ≤ i) : numV lo hi (.int i) = false := by
  show (decide (lo ≤ i) && decide (i ≤ hi)) = _
  rw [decide_eq_false c]
  rfl
section
variable {K : PySem.W.Frag} {σ : L2.St} {H H' H1 H2 : Hp} {i : Nat} {v x y : V} {Q : VK} {a b p q : Addr} {o o' : HO} {xs ys : List V}
theorem x_isK {T : String} {t : String} {b : Bool} (ty : TyX K H x (.type t)) (e : kitB t T = some b) (q : Q (.bl b) H) : rIsi K [x, .ty T] H Q := ⟨x, .ty T, .type t, .type T, b, rfl, .ty T, ty, kit_ty e, q⟩
theorem x_isInt (h : Kn H x) (q : Q (.bl (isIntV x)) H) : rIsi K [x, .ty "int"] H Q := by
  cases x with
  | non => exact x_isK (b := false) (.base .non) (by decide +kernel) q
  | bl b => exact x_isK (b := true) (.base (.bl b)) (by decide +kernel) q
  | int i => exact x_isK (b := true) (.base (.int i)) (by decide +kernel) q
  | str i => exact x_isK (b := false) (.base (.str i)) (by decide +kernel) q
  | byt b => exact h.elim
  | flt b => exact h.elim
  | ty b => exact h.elim
  | ref a =>
    rcases h with ⟨xs, h⟩ | ⟨xs, h⟩ | ⟨xs, h⟩
    · exact x_isK (b := false) (.base (.lst h)) (by decide +kernel) q
    · exact x_isK (b := false) (.base (.tup h)) (by decide +kernel) q
    · exact x_isK (b := false) (.base (.dK h)) (by decide +kernel) q
theorem x_isBl (h : Kn H x) (q : Q (.bl (isBlV x)) H) : rIsi K [x, .ty "bool"] H Q := by
  cases x with
  | non => exact x_isK (b := false) (.base .non) (by decide +kernel) q
  | bl b => exact x_isK (b := true) (.base (.bl b)) (by decide +kernel) q
  | int i => exact x_isK (b := false) (.base (.int i)) (by decide +kernel) q
  | str i => exact x_isK (b := false) (.base (.str i)) (by decide +kernel) q
  | byt b => exact h.elim
  | flt b => exact h.elim
  | ty b => exact h.elim
  | ref a =>
    rcases h with ⟨xs, h⟩ | ⟨xs, h⟩ | ⟨xs, h⟩
    · exact x_isK (b := false) (.base (.lst h)) (by decide +kernel) q
    · exact x_isK (b := false) (.base (.tup h)) (by decide +kernel) q
    · exact x_isK (b := false) (.base (.dK h)) (by decide +kernel) q
/-- isinstance(x, (T1, T2)), the pair just laid -/
theorem x_isiT2 {T1 T2 t : String} {b1 b2 : Bool} (hp : H p = some (.tup [.ty T1, .ty T2])) (ty : TyX K H x (.type t)) (e1 : kitB t T1 = some b1) (e2 : kitB t T2 = some b2) (q : Q (.bl (b1 || b2)) H) : rIsiT K [x, .ref p] H Q := by
  refine ⟨x, p, [.ty T1, .ty T2], .type t, [.type T1, .type T2], b1 || b2, rfl, hp, .cons (.ty _) (.cons (.ty _) .nil), ty, ?_, q⟩
  cases b1 with
  | true => exact kitAny_cons (kit_ty e1) (fun h => nomatch h) (fun _ => rfl)
  | false =>
    refine kitAny_cons (kit_ty e1) (fun _ => ?_) (fun h => nomatch h)
    cases b2 with
    | true => exact kitAny_cons (kit_ty e2) (fun h => nomatch h) (fun _ => rfl)
    | false => exact kitAny_cons (kit_ty e2) (fun _ => kitAny_nil) (fun h => nomatch h)
end
section
variable {K : PySem.W.Frag} {H : Hp} {Q : VK} {a : Addr} {xs : List V}
theorem isi_non_int (q : Q (.bl false) H) : rIsi K [.non, .ty "int"] H Q := x_isK (b := false) (.base .non) (by decide +kernel) q
theorem isi_non_bool (q : Q (.bl false) H) : rIsi K [.non, .ty "bool"] H Q := x_isK (b := false) (.base .non) (by decide +kernel) q
theorem isi_non_tuple (q : Q (.bl false) H) : rIsi K [.non, .ty "tuple"] H Q := x_isK (b := false) (.base .non) (by decide +kernel) q
theorem isi_non_list (q : Q (.bl false) H) : rIsi K [.non, .ty "list"] H Q := x_isK (b := false) (.base .non) (by decide +kernel) q
theorem isi_non_dict (q : Q (.bl false) H) : rIsi K [.non, .ty "dict"] H Q := x_isK (b := false) (.base .non) (by decide +kernel) q
theorem isi_non_str (q : Q (.bl false) H) : rIsi K [.non, .ty "str"] H Q := x_isK (b := false) (.base .non) (by decide +kernel) q
theorem isi_bl_int {c : Bool} (q : Q (.bl true) H) : rIsi K [.bl c, .ty "int"] H Q := x_isK (b := true) (.base (.bl c)) (by decide +kernel) q
theorem isi_bl_bool {c : Bool} (q : Q (.bl true) H) : rIsi K [.bl c, .ty "bool"] H Q := x_isK (b := true) (.base (.bl c)) (by decide +kernel) q
theorem isi_bl_tuple {c : Bool} (q : Q (.bl false) H) : rIsi K [.bl c, .ty "tuple"] H Q := x_isK (b := false) (.base (.bl c)) (by decide +kernel) q
theorem isi_bl_list {c : Bool} (q : Q (.bl false) H) : rIsi K [.bl c, .ty "list"] H Q := x_isK (b := false) (.base (.bl c)) (by decide +kernel) q
theorem isi_bl_dict {c : Bool} (q : Q (.bl false) H) : rIsi K [.bl c, .ty "dict"] H Q := x_isK (b := false) (.base (.bl c)) (by decide +kernel) q
theorem isi_bl_str {c : Bool} (q : Q (.bl false) H) : rIsi K [.bl c, .ty "str"] H Q := x_isK (b := false) (.base (.bl c)) (by decide +kernel) q
theorem isi_int_int {j : Int} (q : Q (.bl true) H) : rIsi K [.int j, .ty "int"] H Q := x_isK (b := true) (.base (.int j)) (by decide +kernel) q
theorem isi_int_bool {j : Int} (q : Q (.bl false) H) : rIsi K [.int j, .ty "bool"] H Q := x_isK (b := false) (.base (.int j)) (by decide +kernel) q
theorem isi_int_tuple {j : Int} (q : Q (.bl false) H) : rIsi K [.int j, .ty "tuple"] H Q := x_isK (b := false) (.base (.int j)) (by decide +kernel) q
theorem isi_int_list {j : Int} (q : Q (.bl false) H) : rIsi K [.int j, .ty "list"] H Q := x_isK (b := false) (.base (.int j)) (by decide +kernel) q
theorem isi_int_dict {j : Int} (q : Q (.bl false) H) : rIsi K [.int j, .ty "dict"] H Q := x_isK (b := false) (.base (.int j)) (by decide +kernel) q
theorem isi_int_str {j : Int} (q : Q (.bl false) H) : rIsi K [.int j, .ty "str"] H Q := x_isK (b := false) (.base (.int j)) (by decide +kernel) q
theorem isi_str_int {j : Str} (q : Q (.bl false) H) : rIsi K [.str j, .ty "int"] H Q := x_isK (b := false) (.base (.str j)) (by decide +kernel) q
theorem isi_str_bool {j : Str} (q : Q (.bl false) H) : rIsi K [.str j, .ty "bool"] H Q := x_isK (b := false) (.base (.str j)) (by decide +kernel) q
theorem isi_str_tuple {j : Str} (q : Q (.bl false) H) : rIsi K [.str j, .ty "tuple"] H Q := x_isK (b := false) (.base (.str j)) (by decide +kernel) q
theorem isi_str_list {j : Str} (q : Q (.bl false) H) : rIsi K [.str j, .ty "list"] H Q := x_isK (b := false) (.base (.str j)) (by decide +kernel) q
theorem isi_str_dict {j : Str} (q : Q (.bl false) H) : rIsi K [.str j, .ty "dict"] H Q := x_isK (b := false) (.base (.str j)) (by decide +kernel) q
theorem isi_str_str {j : Str} (q : Q (.bl true) H) : rIsi K [.str j, .ty "str"] H Q := x_isK (b := true) (.base (.str j)) (by decide +kernel) q
theorem isi_lst_int (h : H a = some (.lst xs)) (q : Q (.bl false) H) : rIsi K [.ref a, .ty "int"] H Q := x_isK (b := false) (.base (.lst h)) (by decide +kernel) q
theorem isi_lst_bool (h : H a = some (.lst xs)) (q : Q (.bl false) H) : rIsi K [.ref a, .ty "bool"] H Q := x_isK (b := false) (.base (.lst h)) (by decide +kernel) q
theorem isi_lst_tuple (h : H a = some (.lst xs)) (q : Q (.bl false) H) : rIsi K [.ref a, .ty "tuple"] H Q := x_isK (b := false) (.base (.lst h)) (by decide +kernel) q
theorem isi_lst_list (h : H a = some (.lst xs)) (q : Q (.bl true) H) : rIsi K [.ref a, .ty "list"] H Q := x_isK (b := true) (.base (.lst h)) (by decide +kernel) q
theorem isi_lst_dict (h : H a = some (.lst xs)) (q : Q (.bl false) H) : rIsi K [.ref a, .ty "dict"] H Q := x_isK (b := false) (.base (.lst h)) (by decide +kernel) q
theorem isi_lst_str (h : H a = some (.lst xs)) (q : Q (.bl false) H) : rIsi K [.ref a, .ty "str"] H Q := x_isK (b := false) (.base (.lst h)) (by decide +kernel) q
theorem isi_tup_int (h : H a = some (.tup xs)) (q : Q (.bl false) H) : rIsi K [.ref a, .ty "int"] H Q := x_isK (b := false) (.base (.tup h)) (by decide +kernel) q
theorem isi_tup_bool (h : H a = some (.tup xs)) (q : Q (.bl false) H) : rIsi K [.ref a, .ty "bool"] H Q := x_isK (b := false) (.base (.tup h)) (by decide +kernel) q
theorem isi_tup_tuple (h : H a = some (.tup xs)) (q : Q (.bl true) H) : rIsi K [.ref a, .ty "tuple"] H Q := x_isK (b := true) (.base (.tup h)) (by decide +kernel) q
theorem isi_tup_list (h : H a = some (.tup xs)) (q : Q (.bl false) H) : rIsi K [.ref a, .ty "list"] H Q := x_isK (b := false) (.base (.tup h)) (by decide +kernel) q
theorem isi_tup_dict (h : H a = some (.tup xs)) (q : Q (.bl false) H) : rIsi K [.ref a, .ty "dict"] H Q := x_isK (b := false) (.base (.tup h)) (by decide +kernel) q
theorem isi_tup_str (h : H a = some (.tup xs)) (q : Q (.bl false) H) : rIsi K [.ref a, .ty "str"] H Q := x_isK (b := false) (.base (.tup h)) (by decide +kernel) q
theorem isi_dK_int {kvs : List (Key × V)} (h : H a = some (.dK kvs)) (q : Q (.bl false) H) : rIsi K [.ref a, .ty "int"] H Q := x_isK (b := false) (.base (.dK h)) (by decide +kernel) q
theorem isi_dK_bool {kvs : List (Key × V)} (h : H a = some (.dK kvs)) (q : Q (.bl false) H) : rIsi K [.ref a, .ty "bool"] H Q := x_isK (b := false) (.base (.dK h)) (by decide +kernel) q
theorem isi_dK_tuple {kvs : List (Key × V)} (h : H a = some (.dK kvs)) (q : Q (.bl false) H) : rIsi K [.ref a, .ty "tuple"] H Q := x_isK (b := false) (.base (.dK h)) (by decide +kernel) q
theorem isi_dK_list {kvs : List (Key × V)} (h : H a = some (.dK kvs)) (q : Q (.bl false) H) : rIsi K [.ref a, .ty "list"] H Q := x_isK (b := false) (.base (.dK h)) (by decide +kernel) q
theorem isi_dK_dict {kvs : List (Key × V)} (h : H a = some (.dK kvs)) (q : Q (.bl true) H) : rIsi K [.ref a, .ty "dict"] H Q := x_isK (b := true) (.base (.dK h)) (by decide +kernel) q
theorem isi_dK_str {kvs : List (Key × V)} (h : H a = some (.dK kvs)) (q : Q (.bl false) H) : rIsi K [.ref a, .ty "str"] H Q := x_isK (b := false) (.base (.dK h)) (by decide +kernel) q
end
section
variable {K : PySem.W.Frag} {σ : L2.St} {H H' H1 H2 : Hp} {i : Nat} {v x y : V} {Q : VK} {a b p q : Addr} {o o' : HO} {xs ys : List V}
theorem x_isiTn {T1 T2 t : String} (hp : H p = some (.tup [.ty T1, .ty T2])) (ty : TyX K H x (.type t)) (e1 : kitB t T1 = some false) (e2 : kitB t T2 = some false) (q : Q (.bl false) H) : rIsiT K [x, .ref p] H Q := x_isiT2 hp ty e1 e2 q
theorem x_isiT1 {T1 T2 t : String} (hp : H p = some (.tup [.ty T1, .ty T2])) (ty : TyX K H x (.type t)) (e1 : kitB t T1 = some true) (e2 : kitB t T2 = some false) (q : Q (.bl true) H) : rIsiT K [x, .ref p] H Q := x_isiT2 hp ty e1 e2 q
theorem x_isiTb {T1 T2 t : String} (hp : H p = some (.tup [.ty T1, .ty T2])) (ty : TyX K H x (.type t)) (e1 : kitB t T1 = some false) (e2 : kitB t T2 = some true) (q : Q (.bl true) H) : rIsiT K [x, .ref p] H Q := x_isiT2 hp ty e1 e2 q
def sca : V → Bool
  | .non => true
  | .bl _ => true
  | .int _ => true
  | .str _ => true
  | _ => false
/-- two values that are the same through and through, at most so deep -/
def Al (K : PySem.W.Frag) (H : Hp) : Nat → V → V → Prop
  | 0, x, y => x = y ∧ sca x = true
  | n + 1, x, y => (x = y ∧ sca x = true) ∨
      (∃ (a b : Addr) (xs ys : List V), x = .ref a ∧ y = .ref b ∧ H a = some (.lst xs) ∧ H b = some (.lst ys) ∧ xs.length = ys.length ∧ ys.length ≤ 1000 ∧ ∀ i (h1 : i < xs.length) (h2 : i < ys.length), Al K H n xs[i] ys[i]) ∨
      (∃ (a b : Addr) (xs ys : List V), x = .ref a ∧ y = .ref b ∧ H a = some (.tup xs) ∧ H b = some (.tup ys) ∧ xs.length = ys.length ∧ ys.length ≤ 1000 ∧ ∀ i (h1 : i < xs.length) (h2 : i < ys.length), Al K H n xs[i] ys[i])
theorem Al.same : ∀ {n : Nat} {x y : V}, Same H H' → Al K H n x y → Al K H' n x y
  | 0, _, _, _, h => h
  | n + 1, x, y, s, h => by
    rcases h with h | ⟨a, b, xs, ys, e1, e2, h1, h2, hl, hz, h⟩ | ⟨a, b, xs, ys, e1, e2, h1, h2, hl, hz, h⟩
    · exact .inl h
    · exact .inr (.inl ⟨a, b, xs, ys, e1, e2, s _ _ h1, s _ _ h2, hl, hz, fun i k1 k2 => (h i k1 k2).same s⟩)
    · exact .inr (.inr ⟨a, b, xs, ys, e1, e2, s _ _ h1, s _ _ h2, hl, hz, fun i k1 k2 => (h i k1 k2).same s⟩)
theorem Al.up {n : Nat} (h : Al K H n x y) : Al K H (n + 1) x y := by
  induction n generalizing x y with
  | zero => exact .inl h
  | succ n ih =>
    rcases h with h | ⟨a, b, xs, ys, e1, e2, h1, h2, hl, hz, h⟩ | ⟨a, b, xs, ys, e1, e2, h1, h2, hl, hz, h⟩
    · exact .inl h
    · exact .inr (.inl ⟨a, b, xs, ys, e1, e2, h1, h2, hl, hz, fun i k1 k2 => ih (h i k1 k2)⟩)
    · exact .inr (.inr ⟨a, b, xs, ys, e1, e2, h1, h2, hl, hz, fun i k1 k2 => ih (h i k1 k2)⟩)
theorem Al.le {n m : Nat} (hm : n ≤ m) (h : Al K H n x y) : Al K H m x y := by
  induction hm with
  | refl => exact h
  | step _ ih => exact ih.up
theorem Al.sca {n : Nat} (hx : Fv.sca x = true) : Al K H n x x := by
  cases n with
  | zero => exact ⟨rfl, hx⟩
  | succ n => exact .inl ⟨rfl, hx⟩
theorem Al.tups {n : Nat} {zs : List V} (ha : H a = some (.tup zs)) (hb : H b = some (.tup zs)) (hz : zs.length ≤ 1000) (h : ∀ z ∈ zs, Fv.sca z = true) : Al K H (n + 1) (.ref a) (.ref b) :=
  .inr (.inr ⟨a, b, zs, zs, rfl, rfl, ha, hb, rfl, hz, fun i h1 h2 => Al.sca (h _ (List.getElem_mem h1))⟩)
theorem Al.lsts {n : Nat} {zs : List V} (ha : H a = some (.lst zs)) (hb : H b = some (.lst zs)) (hz : zs.length ≤ 1000) (h : ∀ z ∈ zs, Fv.sca z = true) : Al K H (n + 1) (.ref a) (.ref b) :=
  .inr (.inl ⟨a, b, zs, zs, rfl, rfl, ha, hb, rfl, hz, fun i h1 h2 => Al.sca (h _ (List.getElem_mem h1))⟩)
theorem Al.lst1 {n : Nat} (ha : H a = some (.lst [x])) (hb : H b = some (.lst [y])) (h : Al K H n x y) : Al K H (n + 1) (.ref a) (.ref b) :=
  .inr (.inl ⟨a, b, [x], [y], rfl, rfl, ha, hb, rfl, (by show _ + 1 ≤ 1000; simp), fun i h1 h2 => by
    cases i with
    | zero => exact h
    | succ i => exact absurd h1 (by show ¬ i + 1 < 1; omega)⟩)
theorem Al.tup1 {n : Nat} (ha : H a = some (.tup [x])) (hb : H b = some (.tup [y])) (h : Al K H n x y) : Al K H (n + 1) (.ref a) (.ref b) :=
  .inr (.inr ⟨a, b, [x], [y], rfl, rfl, ha, hb, rfl, (by show _ + 1 ≤ 1000; simp), fun i h1 h2 => by
    cases i with
    | zero => exact h
    | succ i => exact absurd h1 (by show ¬ i + 1 < 1; omega)⟩)
theorem Al.lst2 {n : Nat} {x2 y2 : V} (ha : H a = some (.lst [x, x2])) (hb : H b = some (.lst [y, y2])) (h : Al K H n x y) (h2 : Al K H n x2 y2) : Al K H (n + 1) (.ref a) (.ref b) :=
  .inr (.inl ⟨a, b, [x, x2], [y, y2], rfl, rfl, ha, hb, rfl, (by show _ + 1 ≤ 1000; simp), fun i k1 k2 => by
    match i, k1 with
    | 0, _ => exact h
    | 1, _ => exact h2
    | i + 2, k1 => exact absurd k1 (by show ¬ i + 2 < 2; omega)⟩)
end
section
variable {X : Cx} {K : PySem.W.Frag}
theorem ix_listK (e : X.K = K) : IxR X (rIxL K) := by
  subst e
  exact ix_list
theorem ix_tupK (e : X.K = K) : IxR X (rIxT K) := by
  subst e
  exact ix_tup
theorem call_lenK (e : X.K = K) : CallR X (.builtin "len") (rLen K) := by
  subst e
  exact call_len
theorem call_lstK (e : X.K = K) : CallR X (.type "list") (rListOf K) := by
  subst e
  exact call_lst
theorem call_tplK (e : X.K = K) : CallR X (.type "tuple") (rTupOf K) := by
  subst e
  exact call_tpl
theorem call_isiK' (e : X.K = K) : CallR X (.builtin "isinstance") (rIsi K) := by
  subst e
  exact call_isi
theorem call_isiTK (e : X.K = K) : CallR X (.builtin "isinstance") (rIsiT K) := by
  subst e
  exact call_isiT
theorem sl_listK (e : X.K = K) : SlR X (rSlL K) := by
  subst e
  exact sl_list
theorem op_inK (e : X.K = K) : OpR X (compareOp .In) (rIn K false) := by
  subst e
  exact op_in_seq
theorem op_notInK (e : X.K = K) : OpR X (compareOp .NotIn) (rIn K true) := by
  subst e
  exact op_notIn_seq
theorem op_eqDK (e : X.K = K) (hu : X.A.units + 64 < cLine) : OpR X (compareOp .Eq) (rEqD K) := by
  subst e
  exact op_eqD hu
theorem op_neDK (e : X.K = K) (hu : X.A.units + 64 < cLine) : OpR X (compareOp .NotEq) (rNeD K) := by
  subst e
  exact op_neD hu
theorem cr_allK (e : X.K = K) (hc : X.calm = true) : CallR X (.builtin "all") (rAll K) := by
  subst e
  exact cr_all hc
section
variable {o e value : Expr} {f : Str} {pos apos cpos : Pos} {ta to : TE} {es : List Expr} {t : TA} {name : Str} {T id : String} {r : V → List V → Hp → VK → Prop}
theorem pe_fldK (k : X.K = K) (he : PE X e ta) (hb : attributeBase e f X.env (eval e X.env) = eval e X.env) : PE X (.Attribute e f pos) (tFld K ta f) := by
  subst k
  exact pe_fld he hb
theorem pe_bm0K (k : X.K = K) (pa : PlainAttrs T) (slot : Slot T name id) (hty : typeOf (.builtin id) = pure (.type "method_descriptor")) (hm : MtR X id r) (ho : PE X o to)
    (h1 : attributeBase o name X.env (eval o X.env) = eval o X.env := by rfl) (h2 : (apos.endLine == cpos.line) = true := by rfl) : PE X (.Call (.Attribute o name apos) [] [] cpos) (tBM0 K T r to) := by
  subst k
  exact pe_bm0 pa slot hty hm ho h1 h2
theorem pe_bmK (k : X.K = K) (pa : PlainAttrs T) (slot : Slot T name id) (hty : typeOf (.builtin id) = pure (.type "method_descriptor")) (hm : MtR X id r) (ho : PE X o to) (ha : PA X [e] t)
    (h1 : attributeBase o name X.env (eval o X.env) = eval o X.env := by rfl)
    (h2 : ((backTo cpos (starEach [e] X.env)).all (fun x => !x.1) && (backToKw cpos (keywordEach [] X.env)).all (fun x => x.1.isSome) && decide ([e].length + ([] : List Keyword).length + (if ([] : List Keyword).isEmpty then 0 else 1) < 30)) = true := by rfl)
    (h3 : (apos.endLine == cpos.line) = true := by rfl) (h4 : starEach [e] X.env = (false, eval e X.env) :: starEach [] X.env := by rfl) (h5 : (backTo cpos (starEach [] X.env)).any (·.1) = false := by rfl) :
    PE X (.Call (.Attribute o name apos) [e] [] cpos) (tBM K T r to t) := by
  subst k
  exact pe_bm pa slot hty hm ho ha h1 h2 h3 h4 h5
end
end
def rIsNk : R2 := fun x y H Q => y = .non ∧ Q (.bl (decide (x = .non))) H
def rNotNk : R2 := fun x y H Q => y = .non ∧ Q (.bl (!decide (x = .non))) H
section
variable {X : Cx} {K : PySem.W.Frag} {H : Hp} {Q : VK} {x v : V} {p : Addr} {i : Int} {xs : List V}
theorem op_isNk : OpR X (compareOp .Is) rIsNk := op_isN
theorem op_notNk : OpR X (compareOp .IsNot) rNotNk := op_notN
theorem x_isN0 (q : Q (.bl true) H) : rIsNk .non .non H Q := ⟨rfl, q⟩
theorem x_isN1 {b : Bool} (q : Q (.bl false) H) : rIsNk (.bl b) .non H Q := ⟨rfl, q⟩
theorem x_isN2 {b : Int} (q : Q (.bl false) H) : rIsNk (.int b) .non H Q := ⟨rfl, q⟩
theorem x_isN3 {b : Str} (q : Q (.bl false) H) : rIsNk (.str b) .non H Q := ⟨rfl, q⟩
theorem x_isN4 {b : Addr} (q : Q (.bl false) H) : rIsNk (.ref b) .non H Q := ⟨rfl, q⟩
theorem x_notN0 (q : Q (.bl false) H) : rNotNk .non .non H Q := ⟨rfl, q⟩
theorem x_notN1 {b : Bool} (q : Q (.bl true) H) : rNotNk (.bl b) .non H Q := ⟨rfl, q⟩
theorem x_notN2 {b : Int} (q : Q (.bl true) H) : rNotNk (.int b) .non H Q := ⟨rfl, q⟩
theorem x_notN3 {b : Str} (q : Q (.bl true) H) : rNotNk (.str b) .non H Q := ⟨rfl, q⟩
theorem x_notN4 {b : Addr} (q : Q (.bl true) H) : rNotNk (.ref b) .non H Q := ⟨rfl, q⟩
theorem ix_seqK (e : X.K = K) : IxR X (rIx K) := by
  subst e
  exact ix_seq
theorem x_ixSL (h : SqL K H p xs) (ha : atI xs i = some v) (q : Q v H) : rIx K (.ref p) (.int i) H Q := .inl (x_ixL h ha q)
theorem x_ixST (h : SqT K H p xs) (ha : atI xs i = some v) (q : Q v H) : rIx K (.ref p) (.int i) H Q := .inr (.inl (x_ixT h ha q))
theorem x_eqB {b c : Bool} (q : Q (.bl (decide (b = c))) H) : rEq (.bl b) (.bl c) H Q := ⟨rfl, by
  have e : decide (V.bl b = V.bl c) = decide (b = c) := by
    rw [Bool.eq_iff_iff]
    simp
  rw [e]
  exact q⟩
theorem x_neB {b c : Bool} (q : Q (.bl (decide (b ≠ c))) H) : rNe (.bl b) (.bl c) H Q := ⟨rfl, by
  have e : (!decide (V.bl b = V.bl c)) = decide (b ≠ c) := by
    rw [Bool.eq_iff_iff]
    simp
  rw [e]
  exact q⟩
theorem x_eqS {b c : Str} (q : Q (.bl (decide (b = c))) H) : rEq (.str b) (.str c) H Q := ⟨rfl, by
  have e : decide (V.str b = V.str c) = decide (b = c) := by
    rw [Bool.eq_iff_iff]
    simp
  rw [e]
  exact q⟩
end
def nats (l : List Nat) : List V := l.map fun (n : Nat) => V.int (Int.ofNat n)
theorem nats_length (l : List Nat) : (nats l).length = l.length := List.length_map ..
theorem nats_get {l : List Nat} {i x : Nat} (h : l[i]? = some x) : (nats l)[i]? = some (.int x) := by
  unfold nats
  rw [List.getElem?_map, h]
  rfl
theorem nats_at {l : List Nat} {i x : Nat} (h : l[i]? = some x) : atI (nats l) (i : Int) = some (.int x) := atI_nat (nats_get h)
theorem nats_append (l m : List Nat) : nats (l ++ m) = nats l ++ nats m := List.map_append ..
theorem nats_set (l : List Nat) (i x : Nat) : (nats l).set i (.int x) = nats (l.set i x) := by
  unfold nats
  rw [List.map_set]
  rfl
theorem nats_erase : ∀ (l : List Nat) (i : Nat), (nats l).eraseIdx i = nats (l.eraseIdx i)
  | [], _ => rfl
  | _ :: _, 0 => rfl
  | a :: l, i + 1 => by
    show V.int a :: (nats l).eraseIdx i = V.int a :: nats (l.eraseIdx i)
    rw [nats_erase l i]
theorem nats_sca {l : List Nat} : ∀ z ∈ nats l, sca z = true := fun z hz => by
  obtain ⟨n, _, rfl⟩ := List.mem_map.mp hz
  rfl
theorem ixN_nat {n k : Nat} (h : k < n) : ixN n (k : Int) = some k := by
  unfold ixN
  rw [if_pos (by omega), if_pos (by omega)]
  rfl
theorem rgV_nats (n : Nat) : rgV 1 ((n : Int) + 1) = nats (List.range' 1 n) := by
  unfold rgV nats
  rw [List.range'_eq_map_range, List.map_map, show ((n : Int) + 1 - 1).toNat = n by omega]
  refine List.map_congr_left fun i _ => ?_
  show V.int (1 + (i : Int)) = V.int ((1 + i : Nat) : Int)
  rw [Int.natCast_add]
  rfl
section
variable {K : PySem.W.Frag} {σ : L2.St} {H : Hp} {Q : VK} {a p : Addr} {xs : List V} {ta tb : TE}
theorem x_listRg1 (h : ta σ H fun x H1 => ∃ n, x = .int n ∧ (RgOk 0 n ∧ ∀ q, H1 q = none → Q (.ref q) (upd H1 q (.lst (rgV 0 n))))) : tLstRg (tRg1 ta) σ H Q := h
theorem x_listRg2 (h : ta σ H fun x H1 => tb σ H1 fun y H2 => ∃ i j, x = .int i ∧ y = .int j ∧ (RgOk i j ∧ ∀ q, H2 q = none → Q (.ref q) (upd H2 q (.lst (rgV i j))))) : tLstRg (tRg2 ta tb) σ H Q := h
theorem x_tupRg1 (h : ta σ H fun x H1 => ∃ n, x = .int n ∧ (RgOk 0 n ∧ ∀ q, H1 q = none → Q (.ref q) (upd H1 q (.tup (rgV 0 n))))) : tTupRg (tRg1 ta) σ H Q := h
theorem x_ij {i j : Int} {R : Int → Int → Prop} (h : R i j) : ∃ k l, V.int i = .int k ∧ V.int j = .int l ∧ R k l := ⟨i, j, rfl, rfl, h⟩
theorem x_tyL {R : Prop} (h : SqL K H a xs) (q : R) : tyV K "list" (.ref a) H ∧ R := ⟨.inl ⟨rfl, _, h⟩, q⟩
theorem x_popAt {i : Int} {k : Nat} {y : V} (h : H p = some (.lst xs)) (h1 : -(2 ^ 63) ≤ i) (h2 : i < 2 ^ 63) (hi : ixN xs.length i = some k) (hy : xs[k]? = some y) (q : Q y (upd H p (.lst (xs.eraseIdx k)))) : rPopAt (.ref p) [.int i] H Q := ⟨p, xs, i, k, y, rfl, rfl, h, h1, h2, (ixN_seq hi).1, hy, q⟩
end
/-! the head alone is opened -/
theorem x_for {wi : TI} {g : TG} {tb : TS} {D : Ends} {σ : L2.St} {H : Hp} (h : wi σ H fun J H1 => ∃ W : Nat → Nat → L2.St → Hp → Prop, (∃ m, W 0 m σ H1) ∧ ∀ i m σ H, W i m σ H →
  (J.stop i H ∧ D.nx σ H) ∨ (J.go i H ∧ ∃ N : L2.St → Hp → Prop, (∀ σ' H', N σ' H' → ∃ m', m' < m ∧ W (i + 1) m' σ' H') ∧ ∀ x H', J.yld i H x H' → g x σ H' fun σ2 H2 => tb { nx := N, rt := D.rt, bk := D.nx, ct := N } σ2 H2)) : tFor wi g tb D σ H := h
theorem x_while {c : TT} {tb : TS} {D : Ends} {σ : L2.St} {H : Hp} (h : ∃ W : Nat → L2.St → Hp → Prop, (∃ m, W m σ H) ∧ ∀ m σ H, W m σ H →
  c σ H fun b H1 => if b = true then ∃ N : L2.St → Hp → Prop, (∀ σ' H', N σ' H' → ∃ m', m' < m ∧ W m' σ' H') ∧ tb { nx := N, rt := D.rt, bk := D.nx, ct := N } σ H1 else D.nx σ H1) : tWhile c tb D σ H := h
theorem x_lc {wi : TI} {g : TG} {tt : TT} {te : TE} {vs : List Nat} {σ : L2.St} {H : Hp} {Q : VK} (h : wi σ H fun J H1 => ∀ D, H1 D = none → ∃ W : Nat → Nat → Hp → Prop, (∃ m, W 0 m (upd H1 D (.lst []))) ∧ ∀ i m H, W i m H →
  (J.stop i H ∧ Q (.ref D) H) ∨ (J.go i H ∧ ∃ Nx : Hp → Prop, (∀ H', Nx H' → ∃ m', m' < m ∧ W (i + 1) m' H') ∧ ∀ x H', J.yld i H x H' → g x (wipe σ vs) H' fun σ2 H2 => wipe σ2 vs = wipe σ vs ∧ tt σ2 H2 fun b H3 =>
    if b = true then te σ2 H3 fun y H4 => ∃ acc, H4 D = some (.lst acc) ∧ acc.length < sizeLine ∧ Nx (upd H4 D (.lst (acc ++ [y]))) else Nx H3)) : tLc wi g tt te vs σ H Q := h
theorem x_lc2 {wi : TI} {g : TG} {tt : TT} {wi1 : TI} {g1 : TG} {tt1 : TT} {te : TE} {vs vs1 : List Nat} {σ : L2.St} {H : Hp} {Q : VK} (h : wi σ H fun J H1 => ∀ D, H1 D = none → ∃ W : Nat → Nat → Hp → Prop, (∃ m, W 0 m (upd H1 D (.lst []))) ∧ ∀ i m H, W i m H →
  (J.stop i H ∧ Q (.ref D) H) ∨ (J.go i H ∧ ∃ Nx : Hp → Prop, (∀ H', Nx H' → ∃ m', m' < m ∧ W (i + 1) m' H') ∧ ∀ x H', J.yld i H x H' → g x (wipe σ vs) H' fun σ2 H2 => wipe σ2 vs = wipe σ vs ∧ tt σ2 H2 fun b H3 =>
    if b = true then wi1 σ2 H3 fun J1 H4 => ∃ W1 : Nat → Nat → Hp → Prop, (∃ m, W1 0 m H4) ∧ ∀ j k H, W1 j k H →
      (J1.stop j H ∧ Nx H) ∨ (J1.go j H ∧ ∃ Nx1 : Hp → Prop, (∀ H', Nx1 H' → ∃ k', k' < k ∧ W1 (j + 1) k' H') ∧ ∀ x H', J1.yld j H x H' → g1 x (wipe σ2 vs1) H' fun σ3 H5 => wipe σ3 vs1 = wipe σ2 vs1 ∧ tt1 σ3 H5 fun b H6 =>
        if b = true then te σ3 H6 fun y H7 => ∃ acc, H7 D = some (.lst acc) ∧ acc.length < sizeLine ∧ Nx1 (upd H7 D (.lst (acc ++ [y]))) else Nx1 H6)
    else Nx H3)) : tLc2 wi g tt wi1 g1 tt1 te vs vs1 σ H Q := h
end Fv
set_option maxRecDepth 100000
set_option maxHeartbeats 1000000
namespace Fv
open PySem PySem.Spec L2
section
variable {K : PySem.W.Frag} {σ : L2.St} {H : Hp} {Q : VK} {a b p : Addr} {xs ys : List V} {ta tb : TE}
theorem But.freeB {H H1 : Hp} {p q : Addr} (b : But p H H1) (n : q ≠ p) (h : H1 q = none) : H q = none := by
  cases e : H q with
  | none => rfl
  | some o =>
    rw [b q o n e] at h
    cases h
theorem x_cat (h1 : H a = some (.lst xs)) (h2 : H b = some (.lst ys)) (hl : xs.length + ys.length ≤ sizeLine) (q : ∀ p, H p = none → Q (.ref p) (upd H p (.lst (xs ++ ys)))) : rCat (.ref a) (.ref b) H Q := ⟨a, b, xs, ys, rfl, rfl, h1, h2, hl, q⟩
theorem rep_one : ∀ (n : Nat) (v : V), (List.replicate n [v]).flatten = List.replicate n v
  | 0, _ => rfl
  | n + 1, v => by
    rw [List.replicate_succ, List.flatten_cons, rep_one n v, List.replicate_succ]
    rfl
theorem x_rep1 {n : Nat} {v : V} (h1 : H a = some (.lst [v])) (hn : n ≤ 1000) (q : ∀ p, H p = none → Q (.ref p) (upd H p (.lst (List.replicate n v)))) : rRep (.ref a) (.int n) H Q := by
  refine ⟨a, n, [v], rfl, rfl, h1, by omega, by omega, szLe (by show 1 * _ ≤ _; omega), fun p hp => ?_⟩
  rw [show (n : Int).toNat = n from rfl, rep_one]
  exact q p hp
theorem nats_rep (n : Nat) : List.replicate n (V.int 0) = nats (List.replicate n 0) := by
  unfold nats
  rw [List.map_replicate]
  rfl
end
end Fv
set_option maxRecDepth 100000
set_option maxHeartbeats 1000000
namespace Fv
open PySem PySem.Spec L2
/-- enumerate of a tuple from a written number on: each item in a new pair -/
def Itn (K : PySem.W.Frag) (t : Addr) (k : Int) : It where
  go := fun i H => ∃ (xs : List V) (x : V), SqT K H t xs ∧ xs[i]? = some x
  yld := fun i H v H' => ∃ (T : Addr) (x : V), v = .ref T ∧ H T = none ∧ H' = upd H T (.tup [.int (k + (i : Int)), x]) ∧ ∀ xs, SqT K H t xs → xs[i]? = some x
  stop := fun i H => ∃ xs : List V, SqT K H t xs ∧ xs.length = i
theorem isTuple_of {h : Heap} {a : Addr} {its : Array Value} (x : PyProof.Rows.IsTup h a its) : h.IsTuple a its := by
  obtain ⟨o, e, c, n, d⟩ := x
  exact ⟨o, e, c, n, d⟩
theorem turn_enumT {P : Program} {w : World} {K : PySem.W.Frag} {elts : List Expr} {kk : Nat} {tpos : Pos} (k : Int) (t e it : Addr) (nt : t ≠ it) (ne : e ≠ it) (ne' : e ≠ t) :
    Turn P w K (.Tuple elts kk tpos) (Itn K t k) [e, it] e (fun i h => (∃ old, IsEnum h e it (k + (i : Int)) old) ∧ h.IsTupleIter it t i) where
  mem := List.mem_cons_self
  obj := fun i h st b hb => by
    obtain ⟨⟨old, he⟩, ⟨o, ho, hc, hd⟩⟩ := st
    rcases List.mem_cons.mp hb with rfl | hb
    · exact ⟨_, he, fun v q => nomatch q⟩
    · rw [List.mem_singleton.mp hb]
      exact ⟨o, ho, fun v q => by rw [hd] at q; cases q⟩
  keep := fun i h h' st kp => ⟨st.1.elim fun old he => ⟨old, kp e List.mem_cons_self _ he⟩, st.2.at fun o q => kp it (List.mem_cons_of_mem _ List.mem_cons_self) o q⟩
  item := by
    intro X hP hw hK hc i pins s σ H E I hf st hg
    subst hP hw hK
    obtain ⟨xs, x, hq, hx⟩ := hg
    obtain ⟨its, rv, p, hz⟩ := I.tuple hq
    obtain ⟨u, hu, ru⟩ := rv.get hx
    have hil : i < its.length := (List.getElem?_eq_some_iff.mp hu).1
    have W := WalksT.enumFrom (prog := X.prog) (w := X.w) (A := X.A) k (Draws.tuple (prog := X.prog) (w := X.w) (A := X.A.in1) (it := it) (t := t) (show X.A.in1.handled = none from I.ok.hd hc) nt its.toArray) e ne (by simp [ne, ne']) (by simp)
    refine W.item i s _ E (by simpa using hil) ⟨st.1, st.2, isTuple_of p⟩ fun T vals h' tk hP' hT hTup hMid hk => ?_
    refine ⟨_, rfl, W.go elts kk tpos i T _ _ E hMid fun h'' hst' hk' => ?_⟩
    obtain ⟨tk2, y, hy, rfl⟩ := hP'
    have ey : y = u := by
      have e1 : its.toArray[i]? = some u := by simpa using hu
      rw [e1] at hy
      exact (Option.some.inj hy).symm
    subst ey
    have hfp : ∀ b ∈ [e, it], b < s.heap.objs.size := fun b hb => by
      obtain ⟨⟨old, he⟩, ⟨o, ho, _⟩⟩ := st
      rcases List.mem_cons.mp hb with rfl | hb
      · exact Heap.lt_size he
      · rw [List.mem_singleton.mp hb]
        exact Heap.lt_size ho
    have hTn : T ∉ [e, it] := W.apart i T _ hMid
    have hTup2 : h''.IsTuple T #[.int (k + (i : Int)) tk2, y] := by
      obtain ⟨o, e1, c1, n1, d1⟩ := hTup
      exact ⟨o, hk' _ _ hTn e1, c1, n1, d1⟩
    have new : ObjOk X.prog X.w (upd H T (.tup [.int (k + (i : Int)), x])) h'' T (.tup [.int (k + (i : Int)), x]) := by
      obtain ⟨o, e1, c1, n1, d1⟩ := hTup2
      exact ⟨by show 2 ≤ sizeLine; decide, [.int (k + (i : Int)) tk2, y], .cons ⟨_, rfl⟩ (.cons ru .nil), ⟨o, e1, c1, n1, d1⟩⟩
    have I1 : Inv X pins σ (upd H T (.tup [.int (k + (i : Int)), x])) { s with heap := h'', toks := tk } :=
      I.turnedNew (ch := [e, it]) (fun b ob hb q => hk' b ob hb (hk b ob hb q)) hf hT new
    refine ⟨.ref T, _, I1, rfl, ⟨T, x, rfl, I.hok.fresh hT, rfl, fun ys hys => by rw [I.tuple_inj hys hq]; exact hx⟩, ⟨hst'.1, hst'.2.1⟩, fun b hb => ?_⟩
    have hbT : b ≠ T := fun z => absurd (hfp b hb) (by rw [z]; exact Nat.not_lt.mpr hT)
    rw [upd_ne hbT]
    exact (hf b hb).1
  done := by
    intro X hP hw hK hc i pins s σ H E I hf st hg
    subst hP hw hK
    obtain ⟨xs, hq, hx⟩ := hg
    obtain ⟨its, rv, p, hz⟩ := I.tuple hq
    have W := WalksT.enumFrom (prog := X.prog) (w := X.w) (A := X.A) k (Draws.tuple (prog := X.prog) (w := X.w) (A := X.A.in1) (it := it) (t := t) (show X.A.in1.handled = none from I.ok.hd hc) nt its.toArray) e ne (by simp [ne, ne']) (by simp)
    have el : i = its.toArray.size := by
      rw [← hx, Vals.length rv]
      simp
    rw [el] at st
    refine W.done s _ E ⟨st.1, st.2, isTuple_of p⟩ fun h' tk hk => ⟨rfl, ?_⟩
    have nh : ∀ b u, H b = some u → b ∉ [e, it] := fun b u hb z => by
      have q := (hf b z).1
      rw [q] at hb
      cases hb
    refine I.step (g' := s.gens) (d' := s.drawn) (ch := [e, it]) (fun b hb => ⟨(hf b hb).2.2.2.1, (hf b hb).2.1, (hf b hb).2.2.2.2.1, (hf b hb).2.2.2.2.2⟩) (fun b o _ _ hc e _ => hk b o hc e) (fun b o _ _ hc e _ => ⟨o.slots, hk b o hc e⟩)
      (fun _ _ _ _ n => n) (fun b o hc e => ⟨o, hk b o hc e⟩) (fun _ _ q => q) (fun _ _ _ q => q) (fun _ ps q => ⟨#[], by rw [q]; simp⟩) (fun m hm => ?_) (fun b u hb => ?_) I.bare
    · obtain ⟨o, es, ep, ho, r⟩ := hm
      exact ⟨o, es, ep, hk _ o (fun z => (hf _ z).2.1 rfl) ho, r⟩
    · refine (I.hok b u hb).stay (fun c v hc q => hk c v ?_ q) (fun _ q => q) fun _ _ q => q
      rcases hc with z | z
      · rw [z]
        exact nh b u hb
      · exact nh c _ z
  self := fun A i s Q E st h => by
    obtain ⟨⟨old, he⟩, _⟩ := st
    exact wpAny_pyIter_enum he h
/-- enumerate(e, start=k), k written -/
def iEnT (K : PySem.W.Frag) (k : Int) (ta : TA) : TI := fun σ H R => ta σ H fun vs H1 => ∃ (t : Addr) (xs : List V), vs = [.ref t] ∧ SqT K H1 t xs ∧ R (Itn K t k) H1
theorem pi_enumT {X : Cx} {e : Expr} {ta : TA} {p pos tpos kpos kp : Pos} {elts : List Expr} {kk j : Nat} {k : Int} (hc : X.calm = true) (hg : Gl X "enumerate") (hm : X.mg "enumerate" = none) (h0 : -(2 ^ 63) ≤ k) (h1 : k < 2 ^ 63) (ha : PA X [e] ta)
    (hs : starEach [e] X.env = (false, eval e X.env) :: starEach [] X.env := by rfl) :
    PI X (.Tuple elts kk tpos) (.Call (.Name "enumerate" p) [e] [⟨some "start", .Constant (.int k) j kp, kpos⟩] pos) (iEnT X.K k ta) := by
  refine ⟨fun pins s σ H R I h => ?_⟩
  refine wpAny_Call_Name_kw (ld_blt I hg hm (u := .type "enumerate") (by decide +kernel) ?_)
  refine PySem.W.callWith_of (P := fun _ => True) (by rw [hs]; rfl) (fun h _ => ⟨_, .inr (.inl rfl), PySem.W.Looks.of_pure rfl⟩) (PyProof.Rows.evalArgs_kw2 rfl (thn (ha.run pos pins s σ H _ I h) fun us s1 ⟨vs, H1, I1, r1, t, xs, ev, hq, q⟩ => ?_) hs)
  have hkw : PK X [⟨some "start", .Constant (.int k) j kp, kpos⟩] (tCons (tC (.int k)) tNil) := pk_cons pe_int pk_nil
  refine thn (hkw.run pos pins s1 σ H1 (fun zs H2 => zs = [.int k] ∧ H2 = H1) I1 ⟨rfl, rfl⟩) fun ks s2 ⟨zs, H2, I2, r2, ez, eH⟩ => ⟨True.intro, ?_⟩
  subst ev ez eH
  cases r1 with
  | cons r rr =>
    cases rr
    cases r
    cases r2 with
    | cons rk rrk =>
      cases rrk
      obtain ⟨tk, rfl⟩ := rk
      obtain ⟨its, rv, p', hz⟩ := I2.tuple hq
      refine enum_begins_start (begins_tuple t its.toArray) (isTuple_of p') h0 h1 fun h' he hit hsz hkp => ?_
      refine wpAny_pyIter_enum he ?_
      have I3 : Inv X pins σ H2 { s2 with heap := h' } := I2.kept (t' := s2.toks) hkp
      have ht : t < s2.heap.objs.size := p'.lt
      have hn : ∀ b, s2.heap.objs.size ≤ b → H2 b = none := fun b hb => I2.hok.fresh hb
      refine ⟨s2.heap.objs.size + 1, [s2.heap.objs.size + 1, s2.heap.objs.size], _, _, H2, rfl, I3, turn_enumT k t (s2.heap.objs.size + 1) s2.heap.objs.size (Nat.ne_of_lt ht) (Nat.succ_ne_self _) (Nat.ne_of_gt (Nat.lt_succ_of_lt ht)),
        ⟨⟨.none, ?_⟩, ⟨_, hit, rfl, rfl⟩⟩, fun b hb => ?_, q⟩
      · rw [show k + ((0 : Nat) : Int) = k by omega]
        exact he
      · have hle : s2.heap.objs.size ≤ b := by
          rcases List.mem_cons.mp hb with rfl | hb
          · exact Nat.le_succ _
          · rw [List.mem_singleton.mp hb]
            exact Nat.le_refl _
        exact I2.fpOk hle (hn b hle)
end Fv
set_option maxRecDepth 100000
set_option maxHeartbeats 1000000
namespace Fv
open PySem PySem.Spec L2
theorem lp_enumT {K : PySem.W.Frag} {t : Addr} {k : Int} {xs : List V} {g : TG} {tb : TS} {nx : L2.St → Hp → Prop} {rt : VK} {σ : L2.St} {H : Hp} (Pv : Nat → L2.St → Hp → Prop) (h0 : Pv 0 σ H) (hl : ∀ i σ H, i ≤ xs.length → Pv i σ H → SqT K H t xs)
    (hs : ∀ i x σ H T, xs[i]? = some x → Pv i σ H → H T = none → g (.ref T) σ (upd H T (.tup [.int (k + (i : Int)), x])) fun σ2 H2 => tb { nx := Pv (i + 1), rt := rt, bk := nx, ct := Pv (i + 1) } σ2 H2) (hd : ∀ σ H, Pv xs.length σ H → nx σ H) :
    ∃ W : Nat → Nat → L2.St → Hp → Prop, (∃ m, W 0 m σ H) ∧ ∀ i m σ H, W i m σ H → ((Itn K t k).stop i H ∧ nx σ H) ∨ ((Itn K t k).go i H ∧ ∃ N : L2.St → Hp → Prop, (∀ σ' H', N σ' H' → ∃ m', m' < m ∧ W (i + 1) m' σ' H') ∧ ∀ x H', (Itn K t k).yld i H x H' → g x σ H' fun σ2 H2 => tb { nx := N, rt := rt, bk := nx, ct := N } σ2 H2) := by
  refine ⟨fun i m σ H => m = xs.length - i ∧ i ≤ xs.length ∧ Pv i σ H, ⟨_, rfl, Nat.zero_le _, h0⟩, ?_⟩
  rintro i m σ H ⟨rfl, hi, p⟩
  have q := hl i σ H hi p
  by_cases hlt : i < xs.length
  · refine .inr ⟨⟨xs, xs[i], q, List.getElem?_eq_getElem hlt⟩, Pv (i + 1), fun σ' H' p' => ⟨_, by omega, rfl, hlt, p'⟩, fun x H' y => ?_⟩
    obtain ⟨T, z, rfl, hT, rfl, hz⟩ := y
    exact hs i z σ H T (hz xs q) p hT
  · have e : i = xs.length := by omega
    subst e
    exact .inl ⟨⟨xs, q, rfl⟩, hd σ H p⟩
theorem lc_enumT {K : PySem.W.Frag} {t : Addr} {k : Int} {xs : List V} {g : TG} {tt : TT} {te : TE} {vs : List Nat} {σ : L2.St} {H1 : Hp} {D : Addr} {Qd : Hp → Prop} (Pv : Nat → Hp → Prop) (h0 : Pv 0 (upd H1 D (.lst []))) (hl : ∀ i H, i ≤ xs.length → Pv i H → SqT K H t xs)
    (hs : ∀ i x H T, xs[i]? = some x → Pv i H → H T = none → g (.ref T) (wipe σ vs) (upd H T (.tup [.int (k + (i : Int)), x])) fun σ2 H2 => wipe σ2 vs = wipe σ vs ∧ tt σ2 H2 fun b H3 =>
      if b = true then te σ2 H3 fun y H4 => ∃ acc, H4 D = some (.lst acc) ∧ acc.length < sizeLine ∧ Pv (i + 1) (upd H4 D (.lst (acc ++ [y]))) else Pv (i + 1) H3) (hd : ∀ H, Pv xs.length H → Qd H) :
    ∃ W : Nat → Nat → Hp → Prop, (∃ m, W 0 m (upd H1 D (.lst []))) ∧ ∀ i m H, W i m H → ((Itn K t k).stop i H ∧ Qd H) ∨ ((Itn K t k).go i H ∧ ∃ Nx : Hp → Prop, (∀ H', Nx H' → ∃ m', m' < m ∧ W (i + 1) m' H') ∧ ∀ x H', (Itn K t k).yld i H x H' → g x (wipe σ vs) H' fun σ2 H2 => wipe σ2 vs = wipe σ vs ∧ tt σ2 H2 fun b H3 =>
        if b = true then te σ2 H3 fun y H4 => ∃ acc, H4 D = some (.lst acc) ∧ acc.length < sizeLine ∧ Nx (upd H4 D (.lst (acc ++ [y]))) else Nx H3) := by
  refine ⟨fun i m H => m = xs.length - i ∧ i ≤ xs.length ∧ Pv i H, ⟨_, rfl, Nat.zero_le _, h0⟩, ?_⟩
  rintro i m H ⟨rfl, hi, p⟩
  have q := hl i H hi p
  by_cases hlt : i < xs.length
  · refine .inr ⟨⟨xs, xs[i], q, List.getElem?_eq_getElem hlt⟩, Pv (i + 1), fun H' p' => ⟨_, by omega, rfl, hlt, p'⟩, fun x H' y => ?_⟩
    obtain ⟨T, z, rfl, hT, rfl, hz⟩ := y
    exact hs i z H T (hz xs q) p hT
  · have e : i = xs.length := by omega
    subst e
    exact .inl ⟨⟨xs, q, rfl⟩, hd H p⟩
section
variable {K : PySem.W.Frag} {σ : L2.St} {H : Hp} {Q : VK} {a p : Addr} {xs : List V} {ta tb : TE}
theorem x_ent {R : It → Hp → Prop} {k : Int} {ts : TA} (h : ts σ H fun vs H1 => ∃ (t : Addr) (xs : List V), vs = [.ref t] ∧ SqT K H1 t xs ∧ R (Itn K t k) H1) : iEnT K k ts σ H R := h
theorem x_ent1 {R : Addr → Prop} (h : SqT K H a xs) (q : R a) : ∃ (t : Addr) (ys : List V), [V.ref a] = [.ref t] ∧ SqT K H t ys ∧ R t := ⟨a, xs, rfl, h, q⟩
end
theorem pi_enumTK {X : Cx} {K : PySem.W.Frag} {e : Expr} {ta : TA} {p pos tpos kpos kp : Pos} {elts : List Expr} {kk j : Nat} {k : Int} (eK : X.K = K) (hc : X.calm = true) (hg : Gl X "enumerate") (hm : X.mg "enumerate" = none) (h0 : -(2 ^ 63) ≤ k) (h1 : k < 2 ^ 63) (ha : PA X [e] ta)
    (hs : starEach [e] X.env = (false, eval e X.env) :: starEach [] X.env := by rfl) :
    PI X (.Tuple elts kk tpos) (.Call (.Name "enumerate" p) [e] [⟨some "start", .Constant (.int k) j kp, kpos⟩] pos) (iEnT K k ta) := by
  subst eK
  exact pi_enumT hc hg hm h0 h1 ha hs
theorem x_isnd {c : Prop} [Decidable c] {A B : Prop} (h1 : ¬ c → A) (h2 : c → B) : if (!decide c) = true then A else B := by
  by_cases h : c
  · rw [decide_eq_true h]
    exact iteF (h2 h)
  · rw [decide_eq_false h]
    exact iteT (h1 h)
theorem num_int {lo hi : Int} {x : V} (h : numV lo hi x = true) : ∃ z, x = .int z ∧ lo ≤ z ∧ z ≤ hi := by
  cases x with
  | int i =>
    have h' : (decide (lo ≤ i) && decide (i ≤ hi)) = true := h
    rw [Bool.and_eq_true, decide_eq_true_eq, decide_eq_true_eq] at h'
    exact ⟨i, rfl, h'.1, h'.2⟩
  | _ => cases h
theorem at_pred {xs : List V} {i : Nat} {x : V} (h : xs[i]? = some x) : atI xs (1 + (i : Int) - 1) = some x := by
  rw [show 1 + (i : Int) - 1 = (i : Int) by omega]
  exact atI_nat h
/-! what is due for a tuple -/
inductive Due where
  | hung
  | block (k : Nat)
  | ring (k : Nat)
  | ok
/-- an item that is no place, or the block itself -/
def badV (n i : Nat) (x : V) : Prop := numV 0 n x = false ∨ x = .int ((i + 1 : Nat) : Int)
inductive DueIs (xs : List V) : Due → Prop where
  | hung : ¬ (1 ≤ xs.length ∧ xs.length ≤ 40) → DueIs xs .hung
  | block {i : Nat} {x : V} : 1 ≤ xs.length → xs.length ≤ 40 → (∀ j y, j < i → xs[j]? = some y → ¬ badV xs.length j y) → xs[i]? = some x → badV xs.length i x → DueIs xs (.block (i + 1))
  | ring {hs : List Nat} {k : Nat} : 1 ≤ xs.length → xs.length ≤ 40 → xs = nats hs → (∀ j y, xs[j]? = some y → ¬ badV xs.length j y) → (∀ j, 1 ≤ j → j < k → upN hs hs.length j = 0) → 1 ≤ k → k ≤ hs.length → upN hs hs.length k ≠ 0 → DueIs xs (.ring k)
  | ok {hs : List Nat} : IsTree hs → xs = nats hs → (∀ j y, xs[j]? = some y → ¬ badV xs.length j y) → DueIs xs .ok
theorem nats_inj : ∀ {l m : List Nat}, nats l = nats m → l = m
  | [], [], _ => rfl
  | [], _ :: _, h => by cases h
  | _ :: _, [], h => by cases h
  | a :: l, b :: m, h => by
    have h' : V.int (Int.ofNat a) :: nats l = V.int (Int.ofNat b) :: nats m := h
    injection h' with h1 h2
    injection h1 with h1
    injection h1 with h1
    rw [h1, nats_inj h2]
theorem DueIs.det {xs : List V} {d e : Due} (h : DueIs xs d) (h' : DueIs xs e) : d = e := by
  cases h with
  | hung n =>
    cases h' with
    | hung _ => rfl
    | block a b _ _ _ => exact (n ⟨a, b⟩).elim
    | ring a b _ _ _ _ _ _ => exact (n ⟨a, b⟩).elim
    | ok t e _ => exact (n ⟨by rw [e, nats_length]; exact t.pos, by rw [e, nats_length]; exact t.most⟩).elim
  | @block i x a b f e1 bd =>
    cases h' with
    | hung n => exact (n ⟨a, b⟩).elim
    | @block j y _ _ f2 e2 bd2 =>
      rcases Nat.lt_trichotomy i j with h | h | h
      · exact (f2 _ _ h e1 bd).elim
      · rw [h]
      · exact (f _ _ h e2 bd2).elim
    | ring _ _ _ f2 _ _ _ _ => exact (f2 _ _ e1 bd).elim
    | ok _ _ f2 => exact (f2 _ _ e1 bd).elim
  | @ring hs k a b e f g k1 k2 nz =>
    cases h' with
    | hung n => exact (n ⟨a, b⟩).elim
    | block _ _ _ e2 bd => exact (f _ _ e2 bd).elim
    | @ring hs2 k' _ _ e2 _ g2 k1' k2' nz2 =>
      have eh := nats_inj (e.symm.trans e2)
      subst eh
      rcases Nat.lt_trichotomy k k' with h | h | h
      · exact (nz (g2 k k1 h)).elim
      · rw [h]
      · exact (nz2 (g k' k1' h)).elim
    | @ok hs2 t e2 _ =>
      have eh := nats_inj (e.symm.trans e2)
      subst eh
      exact (nz (t.comes k k2)).elim
  | @ok hs t e f =>
    cases h' with
    | hung n => exact (n ⟨by rw [e, nats_length]; exact t.pos, by rw [e, nats_length]; exact t.most⟩).elim
    | block _ _ _ e2 bd => exact (f _ _ e2 bd).elim
    | @ring hs2 k' _ _ e2 _ g2 k1' k2' nz2 =>
      have eh := nats_inj (e.symm.trans e2)
      subst eh
      exact (nz2 (t.comes k' k2')).elim
    | ok _ _ _ => rfl
/-- no bad one: they are places -/
theorem good_nats {xs : List V} (n : Nat) (h : ∀ (j : Nat) y, xs[j]? = some y → numV 0 n y = true) : ∃ hs : List Nat, xs = nats hs ∧ ∀ x ∈ hs, x ≤ n := by
  induction xs with
  | nil => exact ⟨[], rfl, fun _ h => nomatch h⟩
  | cons x r ih =>
    obtain ⟨hs, e, hle⟩ := ih fun j y hy => h (j + 1) y hy
    have hx := h 0 x rfl
    cases x with
    | int i =>
      have hx' : (decide ((0 : Int) ≤ i) && decide (i ≤ (n : Int))) = true := hx
      rw [Bool.and_eq_true, decide_eq_true_eq, decide_eq_true_eq] at hx'
      obtain ⟨m, rfl⟩ := Int.eq_ofNat_of_zero_le hx'.1
      refine ⟨m :: hs, by rw [e]; rfl, fun y hy => ?_⟩
      rcases List.mem_cons.mp hy with rfl | hy
      · omega
      · exact hle y hy
    | _ => cases hx
end Fv
set_option maxRecDepth 100000
set_option maxHeartbeats 1000000
namespace Fv
open PySem PySem.Spec L2
theorem x_mko {C : Addr} {sp : Sp} {dvs : List V} {ta : TA} {σ : L2.St} {H : Hp} {Q : XK} (h : ta σ H fun vs H1 => vs.length ≤ 1000 ∧ ∀ a, H1 a = none → sp (.ref a :: (vs ++ dvs)) (upd H1 a (exo a C none)) (fun v H2 => v = .non ∧ ∃ (d : Addr) (fs : List (Str × V)), H2 a = some (exo a C (some d)) ∧ H2 d = some (exd d fs) ∧ H1 d = none ∧ Q (.ref C) (some d) (upd (del H2 a) d (.xd fs))) (fun _ _ _ => False)) : tMkO C sp dvs ta σ H Q := h
theorem x_ost {K : PySem.W.Frag} {f : Str} {to te : TE} {D : Ends} {σ : L2.St} {H : Hp} (h : te σ H fun y H1 => to σ H1 fun x H2 => ∃ a C : Addr, x = .ref a ∧ OexC K C ∧ PySem.W.findIn K (.ref C) f = some none ∧ ((H2 a = some (exo a C none) ∧ ∀ dx, H2 dx = none → dx ≠ a → D.nx σ (upd (upd H2 dx (exd dx [(f, y)])) a (exo a C (some dx)))) ∨ ∃ (dx : Addr) (fs : List (Str × V)), H2 a = some (exo a C (some dx)) ∧ H2 dx = some (exd dx fs) ∧ fs.length ≤ 900 ∧ D.nx σ (upd H2 dx (exd dx ((f, y) :: fs))))) : tOst K f to te D σ H := h
theorem x_sfld {K : PySem.W.Frag} {ta tv : TE} {f : Str} {D : Ends} {σ : L2.St} {H : Hp} (h : tv σ H fun y H1 => ta σ H1 fun x H2 => ∃ a C dx fs, x = .ref a ∧ H2 a = some (.ins C dx fs) ∧ Cls K C ∧ NoAttr K C f ∧ fs.length < 1000 ∧ D.nx σ (upd H2 a (.ins C dx (putF f y fs)))) : sFld K ta tv f D σ H := h
/-- a method, called by its class or through another -/
structure CalM (K : PySem.W.Frag) (f : Addr) (fd : FuncData) (ps : List Str) : Prop where
  k : PySem.W.keepIn K (.ref f) = true
  b : Binds K fd ps []
/-- an own error with one field, set by its __init__ -/
structure ExcF (K : PySem.W.Frag) (C fI : Addr) (f : Str) : Prop where
  T : OexC K C
  i : PySem.W.findIn K (.ref C) "__init__" = some (some (.ref fI))
  t : PySem.W.typeIn K (.ref fI) = some (.type "function")
  n : PySem.W.findIn K (.ref C) f = some none
def spField (C : Addr) (f : Str) : Sp := fun vs H Q _ => ∃ (a : Addr) (v : V), vs = [.ref a, v] ∧ H a = some (exo a C none) ∧ ∀ dx, H dx = none → dx ≠ a → Q .non (upd (upd H dx (exd dx [(f, v)])) a (exo a C (some dx)))
/-- raise C(v): the error's own dict is new, all that was tracked stands -/
theorem mk_field {C : Addr} {f : Str} {v : V} {H : Hp} {Q : XK} (h : ∀ d H', Same H H' → H d = none → H' d = some (.xd [(f, v)]) → Q (.ref C) (some d) H') :
    [v].length ≤ 1000 ∧ ∀ a, H a = none → spField C f (.ref a :: ([v] ++ [])) (upd H a (exo a C none)) (fun v H2 => v = .non ∧ ∃ (d : Addr) (fs : List (Str × V)), H2 a = some (exo a C (some d)) ∧ H2 d = some (exd d fs) ∧ H d = none ∧ Q (.ref C) (some d) (upd (del H2 a) d (.xd fs))) (fun _ _ _ => False) := by
  refine ⟨by show 1 ≤ 1000; decide, fun a ha => ⟨a, v, rfl, upd_same, fun dx hd ne => ⟨rfl, dx, [(f, v)], upd_same, ?_, ?_, ?_⟩⟩⟩
  · rw [upd_ne ne, upd_same]
  · rw [upd_ne ne] at hd
    exact hd
  · rw [upd_ne ne] at hd
    refine h dx _ (fun b o e => ?_) hd upd_same
    have nb := ne_of_none e ha
    rw [upd_ne (ne_of_none e hd), del_ne nb, upd_ne nb, upd_ne (ne_of_none e hd), upd_ne nb]
    exact e
end Fv
set_option maxRecDepth 100000
set_option maxHeartbeats 1000000
namespace Fv
open PySem PySem.Spec L2
/-! tuples of places compared -/
def dn (l : List Nat) : List PyData := l.map fun (n : Nat) => PyData.int (Int.ofNat n)
theorem dpAll_nats {K : PySem.W.Frag} {H : Hp} : ∀ l : List Nat, DpAll K H (nats l) (dn l)
  | [] => .nil
  | a :: l => .cons (.int _) (dpAll_nats l)
theorem dn_lay : ∀ l : List Nat, PyData.canLayAll0 (dn l) = true
  | [] => rfl
  | a :: l => by
    show (PyData.canLay0 (.int (Int.ofNat a)) && PyData.canLayAll0 (dn l)) = true
    rw [dn_lay l]
    rfl
theorem dn_depth : ∀ l : List Nat, PyData.depthAll (dn l) = 0
  | [] => rfl
  | a :: l => by
    show max (PyData.depth (.int (Int.ofNat a))) (PyData.depthAll (dn l)) = 0
    rw [dn_depth l]
    rfl
theorem dn_shaped (l : List Nat) : SeqAt.shaped (.tuple (dn l)) = true := by
  show (PyData.canLayAll0 (dn l) && decide (PyData.depthAll (dn l) + 1 ≤ 64)) = true
  rw [dn_lay, dn_depth]
  rfl
theorem dn_eqv : ∀ l m : List Nat, PyData.eqvAll (dn l) (dn m) = decide (l = m)
  | [], [] => by simp [dn, PyData.eqvAll]
  | [], _ :: _ => by simp [dn, PyData.eqvAll]
  | _ :: _, [] => by simp [dn, PyData.eqvAll]
  | a :: l, b :: m => by
    show PyData.eqvAll (.int (Int.ofNat a) :: dn l) (.int (Int.ofNat b) :: dn m) = _
    rw [PyData.eqvAll, dn_eqv l m, PyData.eqv, Bool.eq_iff_iff]
    simp
    intro _
    omega
section
variable {K : PySem.W.Frag} {H : Hp} {Q : VK} {a b : Addr} {l m : List Nat}
theorem x_eqTup (h1 : SqT K H a (nats l)) (h2 : SqT K H b (nats m)) (q : Q (.bl (decide (l = m))) H) : rEqD K (.ref a) (.ref b) H Q := by
  refine ⟨.tuple (dn l), .tuple (dn m), .tup h1 (dpAll_nats l), .tup h2 (dpAll_nats m), dn_shaped l, dn_shaped m, ?_⟩
  rw [PyData.eqv, dn_eqv]
  exact q
theorem x_neTup (h1 : SqT K H a (nats l)) (h2 : SqT K H b (nats m)) (q : Q (.bl (!decide (l = m))) H) : rNeD K (.ref a) (.ref b) H Q := by
  refine ⟨.tuple (dn l), .tuple (dn m), .tup h1 (dpAll_nats l), .tup h2 (dpAll_nats m), dn_shaped l, dn_shaped m, ?_⟩
  rw [PyData.eqv, dn_eqv]
  exact q
end
/-! x == y by x's own __eq__ -/
structure OwnQ (K : PySem.W.Frag) (C f : Addr) : Prop where
  s : PySem.W.findIn K (.ref C) "__eq__" = some (some (.ref f))
  fn : PySem.W.isFn K (.ref f) = true
def rOwn (C : Addr) (sp : Sp) : R2 := fun x y H Q => ∃ (a b dx : Addr) (fs : List (Str × V)), x = .ref a ∧ y = .ref b ∧ H a = some (.ins C dx fs) ∧ ((∃ dy gs, H b = some (.ins C dy gs)) ∨ ∃ xs, H b = some (.tup xs)) ∧
  sp [.ref a, .ref b] H (fun v H' => ∃ r, v = .bl r ∧ Q (.bl r) H') (fun _ _ _ => False)
theorem tup_apart (K : PySem.W.Frag) (C : Addr) : PySem.W.notFirst K C (.type "tuple") = true := by
  have e : PySem.W.subIn K (.type "tuple") (.ref C) = some false := by
    have e2 : PySem.fastBuiltinMro "tuple" = some [.type "tuple", .type "object"] := by decide +kernel
    show (PySem.fastBuiltinMro "tuple").map (·.contains (Value.ref C)) = some false
    rw [e2]
    rfl
  unfold PySem.W.notFirst
  rw [e]
  rfl
theorem op_own {X : Cx} {C f : Addr} {fd : FuncData} {ps : List Str} {sp : Sp} {n : Nat} (O : OwnQ X.K C f) (F : FnOk X.prog X.w X.K X.mg X.base CX0 n f fd ps sp) (hb : Binds X.K fd ps []) (hr : Room n X.A) : OpR X (compareOp .Eq) (rOwn C sp) := by
  intro pins s σ H x y v u Q I rx ry h
  obtain ⟨a, b, dx, fs, rfl, rfl, ha, hB, hsp⟩ := h
  cases rx
  cases ry
  show wpAny (model X.prog X.w) X.A (richCompare .Eq (.ref a) (.ref b)) (EP X pins σ Q) X.xe s
  obtain ⟨mA, J, _⟩ := ins_get I.hok ha
  obtain ⟨od, J, _⟩ := J.look
  obtain ⟨m, hF⟩ := I.fr
  have r2 : Vals [V.ref a, V.ref b] [Value.ref a, Value.ref b] := .cons rfl (.cons rfl .nil)
  have back : wpAny (model X.prog X.w) X.A (call (.ref f) [.ref a, .ref b]) (PySem.W.CmpBack (EP X pins σ Q)) X.xe s := by
    refine thn (run_fn F hr hb .nil pass0 I r2 hsp) fun w' s' ⟨z, H', I', rz, r, ez, q⟩ => ?_
    subst ez
    cases rz
    exact ⟨.bl r, H', I', rfl, q⟩
  rcases hB with ⟨dy, gs, hB⟩ | ⟨xs, hB⟩
  · obtain ⟨mB, J', _⟩ := ins_get I.hok hB
    obtain ⟨od', J', _⟩ := J'.look
    exact PySem.W.cmp_K (op := .Eq) (tb := .ref C) hr.units0 hF I.ok.mod.kin J J'.type (by simp [PySem.W.notFirst]) O.s O.fn back
  · obtain ⟨_, _, _, o, h1, h2, _⟩ := (show ObjOk X.prog X.w H s.heap b (.tup xs) from I.hok b _ hB)
    exact PySem.W.cmp_K (op := .Eq) (tb := .type "tuple") hr.units0 hF I.ok.mod.kin J (fun A Q E s k q => wpAny_typeOf_ref (k _ _ h1) (by rw [h2]; exact q)) (tup_apart X.K C) O.s O.fn back
/-! what isinstance asks of an own class -/
structure IsC (K : PySem.W.Frag) (C : Addr) : Prop where
  cl : Cls K C
  ha : PySem.W.findIn K (.ref C) "__class__" = some (some (.builtin "object.__class__"))
  hn : PySem.W.specialIn K (.builtin "object.__class__") "__get__" = some (some (.builtin "getset_descriptor.__get__"))
  ht : PySem.W.takesIn K (.builtin "object.__class__") = some true
  hm : PySem.W.mroIn K C (.type "object") = some true
  own : PySem.W.kitOne K (.ref C) (.ref C) = some true
  tup : PySem.W.kitOne K (.type "tuple") (.ref C) = some false
section
variable {K : PySem.W.Frag} {H : Hp} {Q : VK} {a C dx : Addr} {fs : List (Str × V)} {xs : List V}
theorem isi_own (c : IsC K C) (h : H a = some (.ins C dx fs)) (q : Q (.bl true) H) : rIsi K [.ref a, .ref C] H Q := ⟨.ref a, .ref C, .ref C, .ref C, true, rfl, .own C, .base (.ins h c.cl c.ha c.hn c.ht c.hm), c.own, q⟩
theorem isi_tupOwn (c : IsC K C) (h : H a = some (.tup xs)) (q : Q (.bl false) H) : rIsi K [.ref a, .ref C] H Q := ⟨.ref a, .ref C, .type "tuple", .ref C, false, rfl, .own C, .base (.tup h), c.tup, q⟩
theorem x_fldQ {te : TE} {f : Str} {σ : L2.St} (h : te σ H fun x H1 => ∃ a C dx fs v, x = .ref a ∧ H1 a = some (.ins C dx fs) ∧ Cls K C ∧ NoAttr K C f ∧ fs.lookup f = some v ∧ Q v H1) : tFld K te f σ H Q := h
theorem x_fld1 {v : V} {f : Str} (h : H a = some (.ins C dx fs)) (c : Cls K C) (n : NoAttr K C f) (l : fs.lookup f = some v) (q : Q v H) : ∃ a' C' dx' fs' v', V.ref a = .ref a' ∧ H a' = some (.ins C' dx' fs') ∧ Cls K C' ∧ NoAttr K C' f ∧ fs'.lookup f = some v' ∧ Q v' H := ⟨a, C, dx, fs, v, rfl, h, c, n, l, q⟩
end
end Fv
set_option maxRecDepth 100000
set_option maxHeartbeats 1000000
namespace Fv
open PySem PySem.Spec L2 PyProof.Rows
/-- what leaves the body of a try is the wish at any cells of the right number -/
theorem passLen {X : Cx} {W : WX} {n : Nat} (tk : Takes X W) (hn : X.N.length = n) : Passes (L2.CX X.prog X.w) X (fun cls d H => ∀ σ : L2.St, σ.length = n → W cls d σ H) := fun pins σ H s e s' I c => by
  refine passAt tk σ pins H s e s' I ?_
  obtain ⟨a, B, H', cls, d, h1, h2, h3, h4, h5, h6, h7, h8⟩ := c
  exact ⟨a, B, H', cls, d, h1, h2, h3, h4, h5, h6, h7, h8 σ (I.len.trans hn)⟩
/-- isinstance(e, C), e the caught error, which holds a field -/
def rIsF (K : PySem.W.Frag) (D a : Addr) (cls : Value) (d : Option Addr) : List V → Hp → VK → Prop := fun xs H Q => ∃ (C dd : Addr) (fs : List (Str × V)), xs = [.ref a, .ref C] ∧ cls = .ref D ∧ d = some dd ∧ H dd = some (.xd fs) ∧ PySem.W.kitOne K (.ref D) (.ref C) = some true ∧ Q (.bl true) H
theorem call_isF {X : Cx} {a D : Addr} {oe : Obj} {cls : Value} {d : Option Addr} {pn : List (Addr × Obj)} (C : L2.ExcC X.K D) (hz : Zc cls d oe) (hf : ∃ vs, oe.data = .fields vs) : CallR (X.suite a ((a, oe) :: pn)) (.builtin "isinstance") (rIsF X.K D a cls d) := by
  intro pins s σ H xs us Q I r h
  obtain ⟨B, dd, fs, rfl, rfl, rfl, ea, e, q⟩ := h
  cases r with
  | cons rx rr =>
    cases rr with
    | cons rt rr =>
      cases rr
      cases rx
      cases rt
      obtain ⟨hget, _⟩ := I.pin (a, oe) (List.mem_append.mpr (.inl List.mem_cons_self))
      obtain ⟨vs, hv⟩ := hf
      have hx : ObjOk X.prog X.w H s.heap dd (.xd fs) := I.hok dd _ ea
      obtain ⟨mA, hns, hr⟩ := hx
      obtain ⟨od, ho, hl⟩ := lookIn_ns hns
      have J : PySem.W.InstAt s.heap a oe D (some od) := ⟨hget, hz.1, by unfold PySem.W.notCls; rw [hv] <;> rfl, by rw [hz.2]; exact ho⟩
      have hcl : (PySem.W.clsIn X.K D).isSome = true := by
        obtain ⟨cd, hc, _⟩ := PySem.W.any_some C.hd
        rw [hc]
        rfl
      exact PySem.W.kia_one (PySem.W.kitx_exc hcl C.hg C.hk C.hs C.ha C.hn C.ht C.hm) I.kIn J e (fun z => nomatch z) fun tk => ⟨.bl true, H, I.kept (t' := tk) fun _ _ z => z, rfl, q⟩
theorem x_make {C : Addr} {sp : Sp} {dvs : List V} {E : XK} {t : TA} {σ : L2.St} {H : Hp} {Q : VK} (h : t σ H fun vs H1 => ∀ x dx, H1 x = none → H1 dx = none → dx ≠ x → sp (.ref x :: (vs ++ dvs)) (upd (upd H1 dx (.own x)) x (.ins C dx [])) (fun v H2 => v = .non ∧ Q (.ref x) H2) E) : tMake C sp dvs E t σ H Q := h
theorem x_xf {a : Addr} {cls : Value} {d : Option Addr} {C : Addr} {f : Str} {te : TE} {σ : L2.St} {H : Hp} {Q : VK} (h : te σ H fun x H1 => x = .ref a ∧ cls = .ref C ∧ ∃ (dd : Addr) (fs : List (Str × V)) (v : V), d = some dd ∧ H1 dd = some (.xd fs) ∧ fs.lookup f = some v ∧ Q v H1) : tXf a cls d C f te σ H Q := h
end Fv
set_option maxRecDepth 100000
set_option maxHeartbeats 1000000
namespace Fv
open PySem PySem.Spec L2
section
variable {X : Cx} {K : PySem.W.Frag} {H : Hp} {Q : VK} {a b : Addr} {xs ys : List V} {v : V}
/-- a callee from which nothing comes out -/
theorem passE {P : Program} {w : World} : Passes (L2.CX P w) X (fun _ _ _ => False) := fun pins σ H s e s' I c => by
  obtain ⟨a, B, H', cls, d, h1, h2, h3, h4, h5, h6, h7, h8⟩ := c
  exact h8.elim
theorem op_catTK (e : X.K = K) : OpR X (binaryOp .Add) (rCatT K) := by
  subst e
  exact op_catT
theorem op_repTK (e : X.K = K) : OpR X (binaryOp .Mult) (rRepT K) := by
  subst e
  exact op_repT
theorem x_catT (h1 : SqT K H a xs) (h2 : SqT K H b ys) (nx : xs ≠ []) (ny : ys ≠ []) (hl : xs.length + ys.length ≤ 10000) (q : ∀ p, H p = none → Q (.ref p) (upd H p (.tup (xs ++ ys)))) : rCatT K (.ref a) (.ref b) H Q :=
  ⟨a, b, xs, ys, rfl, rfl, h1, h2, nx, szLe (by omega), fun e => (ny e).elim, fun _ => q⟩
theorem x_repT1 {k : Nat} (h : SqT K H a [v]) (h2 : 2 ≤ k) (hk : k ≤ 1000) (q : ∀ p, H p = none → Q (.ref p) (upd H p (.tup (List.replicate k v)))) : rRepT K (.ref a) (.int k) H Q :=
  ⟨a, k, [v], rfl, rfl, h, by simp, by omega, by omega, (by show 1 ≤ 1000; decide), fun p hp => by
    have e := rep_one k v
    rw [Int.toNat_natCast, e]
    exact q p hp⟩
end
end Fv
set_option maxRecDepth 100000
set_option maxHeartbeats 1000000
namespace Fv
open PySem PySem.Spec PyProof.Rows L2
/-! a range kept by a name, and walked -/
def rRng2 : List V → Hp → VK → Prop := fun vs H Q => ∃ i j, vs = [V.int i, V.int j] ∧ ∀ p, H p = none → Q (.ref p) (upd H p (.rng i j))
theorem call_rng2 {X : Cx} : CallR X (.type "range") rRng2 := cr_range2
def iRngV (te : TE) : TI := fun σ H R => te σ H fun x H1 => ∃ (a : Addr) (lo hi : Int), x = .ref a ∧ H1 a = some (.rng lo hi) ∧ (-(2 ^ 62) ≤ lo ∧ lo < 2 ^ 62 ∧ -(2 ^ 62) ≤ hi ∧ hi < 2 ^ 62) ∧ R (Itr lo (hi - lo).toNat) H1
theorem pi_rngV {X : Cx} {tg e : Expr} {te : TE} (he : PE X e te) : PI X tg e (iRngV te) := by
  refine ⟨fun pins s σ H R I h => thn (he.run pins s σ H _ I h) fun u s1 ⟨x, H1, I1, rx, a, lo, hi, ex, ea, ⟨h1, h2, h3, h4⟩, q⟩ => ?_⟩
  subst ex
  obtain rfl : u = Value.ref a := rx
  obtain ⟨t, u, v, ho⟩ := (show ∃ t u v, s1.heap.get? a = some { cls := .type "range", data := .fields #[.int lo t, .int hi u, .int 1 v] } from I1.hok a _ ea)
  refine wpAny_pyIter_range (a := lo) (b := hi) (c := 1) (t := t) (u := u) (v := v) ho (small_one h1 h2 h3 h4) ?_
  refine ⟨s1.heap.objs.size, [s1.heap.objs.size], _, _, H1, rfl, I1.kept (t' := s1.toks) fun b o e => Heap.get?_push_of_some _ e, turn_range _ lo (hi - lo).toNat, ?_, fun b hb => ?_, q⟩
  · have e1 : lo + ((0 : Nat) : Int) * 1 = lo := by simp
    have e2 : (((hi - lo).toNat : Nat) : Int) - ((0 : Nat) : Int) = Builtin.Range.rangeSize lo hi 1 := by rw [rangeSize_one]; split <;> omega
    show IsRangeIter _ _ (lo + ((0 : Nat) : Int) * 1) ((((hi - lo).toNat : Nat) : Int) - ((0 : Nat) : Int)) 1
    rw [e1, e2]
    exact Heap.get?_push_size _ rfl
  · have e : b = s1.heap.objs.size := by simpa using hb
    subst e
    exact I1.fpOk (Nat.le_refl _) (I1.hok.fresh (Nat.le_refl _))
theorem pg_tupK {X : Cx} {K : PySem.W.Frag} {es : List Expr} {k : Nat} {t : TGs} {n : Nat} {pos : Pos} (eK : X.K = K) (hc : X.calm = true) (h : PGs X es t)
    (hn : (assignEach es X.env).length = n := by rfl) (hst : (assignEach es X.env).findIdx? (·.1) = none := by rfl) : PG X (.Tuple es k pos) (gTup K n t) := by
  subst eK
  exact pg_tup hc h hn hst
section
variable {K : PySem.W.Frag} {σ : L2.St} {H : Hp} {Q : VK} {a p : Addr} {xs : List V} {v : V}
theorem x_rng2v {i j : Int} (q : ∀ p, H p = none → Q (.ref p) (upd H p (.rng i j))) : rRng2 [.int i, .int j] H Q := ⟨i, j, rfl, q⟩
theorem x_irngV {R : It → Hp → Prop} {te : TE} (h : te σ H fun x H1 => ∃ (a : Addr) (lo hi : Int), x = .ref a ∧ H1 a = some (.rng lo hi) ∧ (-(2 ^ 62) ≤ lo ∧ lo < 2 ^ 62 ∧ -(2 ^ 62) ≤ hi ∧ hi < 2 ^ 62) ∧ R (Itr lo (hi - lo).toNat) H1) : iRngV te σ H R := h
theorem atI_last (xs : List V) (v : V) : atI (xs ++ [v]) (-1) = some v := by
  unfold atI ixN
  rw [if_neg (by decide), if_pos (by rw [List.length_append]; show -((xs.length + 1 : Nat) : Int) ≤ -1; omega)]
  show (xs ++ [v])[_]? = _
  have e : ((-1 : Int) + ((xs ++ [v]).length : Nat)).toNat = xs.length := by
    rw [List.length_append]
    show ((-1 : Int) + ((xs.length + 1 : Nat) : Int)).toNat = xs.length
    omega
  first
    | (rw [e]; simp)
    | simp
theorem flat_nats (l : List Nat) : (nats l).all flatV = true := by
  rw [List.all_eq_true]
  intro x hx
  obtain ⟨n, _, rfl⟩ := List.mem_map.mp hx
  rfl
theorem in_nats (k : Nat) : ∀ l : List Nat, inV (.int k) (nats l) = decide (k ∈ l)
  | [] => rfl
  | a :: l => by
    show (eqV (.int a) (.int k) || inV (.int k) (nats l)) = decide (k ∈ a :: l)
    rw [in_nats k l, Bool.eq_iff_iff]
    simp only [Bool.or_eq_true, decide_eq_true_eq, List.mem_cons]
    have e : eqV (.int a) (.int k) = decide ((a : Int) = (k : Int)) := by
      show ((a : Int) == (k : Int)) = _
      rfl
    rw [e, decide_eq_true_eq]
    constructor
    · rintro (h | h)
      · exact .inl (by omega)
      · exact .inr h
    · rintro (h | h)
      · exact .inl (by omega)
      · exact .inr h
theorem x_inNT {k : Nat} {l : List Nat} (h : SqT K H p (nats l)) (q : Q (.bl (decide (k ∈ l))) H) : rIn K false (.int k) (.ref p) H Q := by
  refine ⟨p, _, rfl, .inr h, rfl, flat_nats l, ?_⟩
  show Q (.bl (inV (.int k) (nats l))) H
  rw [in_nats]
  exact q
end
end Fv
set_option maxRecDepth 100000
set_option maxHeartbeats 1000000
namespace Fv
open PySem PySem.Spec PySem.Calls PyProof.Rows
/-! an error of the package whose __init__ says super().__init__() and no more -/
def siA (p : Pos) : Arguments := { posonlyargs := [], args := [{ arg := "self", annotation := none, pos := p }], vararg := none, kwonlyargs := [], kw_defaults := [], kwarg := none, defaults := [] }
def siB (p0 p1 p2 p3 p4 : Pos) : List Stmt := [.Expr (.Call (.Attribute (.Call (.Name "super" p0) [] [] p1) "__init__" p2) [] [] p3) p4]
def siS : Scope := { kind := .function, names := [(PySem.Str.ofString "self", .local), (PySem.Str.ofString "__class__", .free), (PySem.Str.ofString "super", .globalImplicit)], isGenerator := false, isCoroutine := false, more := [] }
/-- how the model reads super().__init__(), its places being these -/
def SupEv (p0 p1 p2 p3 : Pos) : Prop := ∀ (q : Str) (L a cc : Addr) (cd : Value), ∃ pl : Sem Bool,
  eval (.Call (.Attribute (.Call (.Name "super" p0) [] [] p1) "__init__" p2) [] [] p3) (PySem.W.ksEnv q siS L a cd cc) = (do
    let o ← attributeBase (.Call (.Name "super" p0) [] [] p1) "__init__" (PySem.W.ksEnv q siS L a cd cc) (eval (.Call (.Name "super" p0) [] [] p1) (PySem.W.ksEnv q siS L a cd cc))
    standAt p2.atName
    let (f, first) ← holding [o] (getMethod o "__init__" pl)
    callWith p3 f first (backTo p3 (starEach [] (PySem.W.ksEnv q siS L a cd cc))) [])
/-- what the written part says of such a class at C, and of its __init__, at fI -/
structure SupC (P : Program) (K : PySem.W.Frag) (C fI : Addr) : Prop where
  x : L2.OexC K C
  iC : PySem.W.findIn K (.ref C) "__init__" = some (some (.ref fI))
  tC : PySem.W.typeIn K (.ref fI) = some (.type "function")
  fn : ∃ (oc : Value) (od : Option Addr) (kV doc pm : Value) (an : Option Addr) (cda : Addr) (ct : Value) (osl : Array (Option Value)) (cc : Addr) (q : Str) (p p0 p1 p2 p3 p4 : Pos),
    K.lookup fI = some ⟨oc, od, .func (PySem.W.ksFn "__init__" q (siA p) (siB p0 p1 p2 p3 p4) siS .none kV doc pm an (.ref cda) ct cc), osl⟩ ∧ PySem.W.codeIn K (.ref cda) q = true ∧ (∃ (cl : Value) (cld : Option Addr) (csl : Array (Option Value)), K.lookup cc = some ⟨cl, cld, .cell (some (.ref C)), csl⟩) ∧
    ∃ (ccl : Value) (cdd : Option Addr) (vs : Array Value) (ccs : Array (Option Value)) (file : Str) (tf : Tok), K.lookup cda = some ⟨ccl, cdd, .fields vs, ccs⟩ ∧ vs[2]? = some (.str file tf) ∧ ((P.main.file : Str) == file) = true ∧ SupEv p0 p1 p2 p3
  up : PySem.W.ks_superIn K C C "__init__" = some (some (.builtin "ValueError.__init__"))
  me : PySem.W.mroIn K C (.ref C) = some true
  ve : PySem.W.subIn K (.ref C) (.type "ValueError") = some true
  op : PySem.W.nsIn K cStatics "thirdparty.any" = some none
  tp : (P.main.scope.names.lookup ("super" : Str)).isSome = false
section
variable {P : Program} {w : World} {A : Around} {R : Result → Shared → Prop} {s : Shared} {K : PySem.W.Frag} {C fI : Addr}
theorem sup_init (T : SupC P K C fI) {x t0 : Addr} {mg mb : Str → Option Value} (X : K.In s.heap) (hlim : s.heap.NoLimit) (hg : s.heap.Ns mainGlobals mg) (hms : mg "super" = none) (hb : s.heap.Ns builtinsNs mb) (hbs : mb "super" = some (.type "super"))
    (hx : s.heap.get? x = some (PySem.HandSPX.excO C t0)) (hroom : A.depth < recursionLimit)
    (hq : ∀ h' tk t1, (∀ b o, b ≠ x → s.heap.get? b = some o → h'.get? b = some o) → h'.get? x = some (PySem.HandSPX.excO C t1) → R (.ok (.ret .none)) { s with heap := h', toks := tk }) :
    codeAny (model P w) A (.call (.ref fI) ⟨[.ref x], []⟩) R s := by
  obtain ⟨oc, od, kV, doc, pm, an, cda, ct, osl, cc, q, p, p0, p1, p2, p3, p4, ho, hcd, ⟨cl, cld, csl, hcell⟩, ccl, cdd, vs, ccs, file, tf, hcode, hvs, hfile, hev⟩ := T.fn
  obtain ⟨nm, q', N, bs, bm, sn, sub, ab, col, dd, k0, k1, k2, k3, k5, hC, hbm⟩ := T.x.cls
  have hcl : PySem.W.clsIn K C = some { name := nm, bases := bs, mro := .ref C :: bm, ns := N, qualname := q', hasDict := true, slotNames := sn, subclasses := sub, abstract := ab, collection := col, hasDel := false } := by
    unfold PySem.W.clsIn
    rw [hC] <;> rfl
  refine ks_codeAny_call_defAt (binds := [("self", .ref x)]) hroom (X _ _ ho) rfl hlim (PySem.W.codeRec_of X hcd) rfl (BindsTo.of_eq rfl) (show ∀ x ∈ siS.names, x.2 ≠ NameKind.cell by decide) (fun y hy => ?_) (fun h₁ hns hk₁ => ?_)
  · simp only [List.mem_cons, List.not_mem_nil, or_false] at hy
    subst hy
    rfl
  have X1 : K.In h₁ := X.keeps hk₁
  have hx1 := hk₁ _ _ hx
  have hC1 := X1 _ _ hC
  obtain ⟨hp, g, d, tk, os⟩ := s
  obtain ⟨pl, he⟩ := hev q hp.objs.size fI cc (.ref cda)
  refine ks_wpAt_execs_cons (ks_wpAt_Expr_any (ks_wpAt_MethodCall (pl := pl) ?_ he))
  refine ks_wpAt_super_base rfl rfl rfl rfl (X1 _ _ ho) rfl rfl rfl (X1 _ _ hcode) rfl hvs hfile T.tp ?_
  refine PySem.W.ks_loadName_global rfl rfl (loadGlobal_builtin (hg.keeps hk₁) hms (hb.keeps hk₁) hbs ⟨rfl, ?_⟩)
  refine wpAny_loadName_free rfl rfl rfl ⟨_, X1 _ _ hcell, rfl⟩ ?_
  refine wpAny_loadName_local (v := .ref x) rfl rfl hns rfl ?_
  refine ks_wpAny_isType_cls hC1 rfl ⟨rfl, ?_⟩
  refine ks_wpAny_call_super hC1 rfl hx1 rfl (fun c e => by cases e) (PySem.W.looks_mroIn X1 T.me) (fun h2 hso k2 => ?_)
  have X2 : K.In h2 := X1.keeps k2
  have hx2 := k2 _ _ hx1
  have I2 : PySem.W.InstAt h2 x (PySem.HandSPX.excO C t0) C none := ⟨hx2, rfl, rfl, trivial⟩
  have hup : PySem.W.alongIn K "__init__" (((Value.ref C :: bm).dropWhile (· != Value.ref C)).drop 1) = some (some (.builtin "ValueError.__init__")) := by
    have e := T.up
    unfold PySem.W.ks_superIn at e
    rw [hcl] at e
    exact e
  refine PySem.W.kxs_getMethod PySem.W.kxs_ValueError hso (PySem.W.looks_opaque X2 T.op) (l₀ := .ref C :: bm) ?_ rfl X2 hup (I2.type.andThen (PySem.W.looks_subIn X2 T.ve)) (PySem.W.ks_ne X2 I2 hcl) (by decide) ?_
  · exact fun A Q E s k q => wpAny_bind (PySem.W.looks_clsIn X2 hcl A _ E s k (wpAny_pure q))
  have hu : (h2.push (PySem.W.kxs_mw "ValueError.__init__" x)).get? h2.objs.size = some (PySem.W.kxs_mw "ValueError.__init__" x) := Heap.get?_push_at rfl rfl
  have k3 : ∀ b o, h2.get? b = some o → (h2.push (PySem.W.kxs_mw "ValueError.__init__" x)).get? b = some o := fun b o e => Heap.get?_push_of_some _ e
  refine PySem.W.kxs_callWith (i := "ValueError.__init__") (x := x) rfl (PyProof.Rows.evalArgs_empty ⟨hu, ?_⟩)
  have FB := PySem.F.excBase_ValueError
  have hC3 := k3 _ _ (X2 _ _ hC)
  have hx3 := k3 _ _ hx2
  refine wpAny_call (codeAny_of_tree ?_)
  show wpAny _ _ (callAny (.ref h2.objs.size) ⟨[], []⟩) _ _ _
  unfold callAny
  refine wpAny_bind (wpAny_load hu ?_)
  show wpAny _ _ (if (Value.type "method-wrapper" == Value.type "method" || Value.type "method-wrapper" == Value.type "builtin_function_or_method" || Value.type "method-wrapper" == Value.type "method-wrapper") = true then
    (if (Value.type "method-wrapper" != Value.type "method") = true then (do checkBoundCall "ValueError.__init__" ⟨[.ref x], []⟩; again (.builtin "ValueError.__init__" ⟨[.ref x], []⟩)) else again (.call (.builtin "ValueError.__init__") ⟨[.ref x], []⟩)) else _) _ _ _
  rw [if_pos (by decide), if_pos (by decide)]
  refine wpAny_bind (PySem.W.check_bound_init FB.toExcCallFacts hC3 hx3 rfl (wpAny_pure ⟨PySem.plainId_quiet FB.init.plain _, codeAny_builtin FB.initEntry ?_⟩))
  refine PySem.W.exc_init_tree (cls := .ref C) (t0 := t0) (dv := none) (c2 := .none) (c3 := .none) (b4 := .bool false) hx3 (by rw [sizeLine_eq]; decide) fun h4 k4 hx4 _ => ?_
  show PySem.wpAt _ _ _ (execs [] _) _ _ _
  exact PySem.wpAt_of_wpAny (wpAny_execs_nil (hq h4 _ _ (fun b o nb e => k4 b o nb (k3 _ _ (k2 _ _ (hk₁ _ _ e)))) hx4))
theorem sup_made (T : SupC P K C fI) {mg mb : Str → Option Value} (X : K.In s.heap) (hlim : s.heap.NoLimit) (hg : s.heap.Ns mainGlobals mg) (hms : mg "super" = none) (hb : s.heap.Ns builtinsNs mb) (hbs : mb "super" = some (.type "super")) (hroom : A.depth + 1 < recursionLimit)
    (hq : ∀ h' tk e t1, (∀ b o, s.heap.get? b = some o → h'.get? b = some o) → s.heap.objs.size ≤ e → h'.get? e = some (PySem.HandSPX.excO C t1) → R (.ok (.ret (.ref e))) { s with heap := h', toks := tk }) :
    codeAny (model P w) A (.call (.ref C) ⟨[], []⟩) R s := by
  obtain ⟨nm, q', N, bs, bm, sn, sub, ab, col, dd, k0, k1, k2, k3, k5, hC, hbm⟩ := T.x.cls
  obtain ⟨hp, g, dr, tk, os⟩ := s
  have k : ∀ b o, hp.get? b = some o → ((hp.push (PySem.W.kdv_tup [])).push (PySem.HandSPX.excO C hp.objs.size)).get? b = some o := fun b o e => Heap.get?_push_of_some _ (Heap.get?_push_of_some _ e)
  have hget : ((hp.push (PySem.W.kdv_tup [])).push (PySem.HandSPX.excO C hp.objs.size)).get? (hp.objs.size + 1) = some (PySem.HandSPX.excO C hp.objs.size) := by heap_get
  refine PySem.HandSPX.call_own PySem.F.excBase_ValueError (fun Y => PySem.HandSPX.refsVE_contains Y bm hbm) (X _ _ hC) (PySem.W.looks_findIn X T.iC) (fun self => PySem.W.bind_fn X self T.tC) (by rw [sizeLine_eq]; decide) ?_
  refine sup_init (s := ⟨(hp.push (PySem.W.kdv_tup [])).push (PySem.HandSPX.excO C hp.objs.size), g, dr, tk, os⟩) T (X.keeps k) (hlim.keeps k) (hg.keeps k) hms (hb.keeps k) hbs hget ?_ fun h' tk' t1 k' hx => ?_
  · show A.depth + 1 < recursionLimit
    exact hroom
  · refine ⟨rfl, hq h' tk' (hp.objs.size + 1) t1 (fun b o e => k' b o ?_ (k b o e)) (Nat.le_succ _) hx⟩
    exact Nat.ne_of_lt (Nat.lt_succ_of_lt (Heap.lt_size e))
end
end Fv
namespace Fv
open PySem PySem.Spec PyProof.Rows L2
/-- C(), C such a class: all that was tracked stands, and no dict is made -/
theorem pmk_sup {X : Cx} {C fI : Addr} {x : Str} {p pos : Pos} (T : SupC X.prog X.K C fI) (hr : Room 1 X.A) (hg : Gl X x) (hm : X.mg x = some (.ref C)) (hs : X.mg "super" = none) (hdb : (x == ("__debug__" : Str)) = false := by decide) :
    PMk X (.Call (.Name x p) [] [] pos) (fun _ H Q => Q (.ref C) none H) := by
  intro pins s σ H Q I h
  refine wpAny_Call_Name_kw (ld_glob I hg hm ?_ hdb)
  refine PySem.W.callWith_K0 I.kIn T.x.kC ?_
  obtain ⟨mb, hb1, hb2⟩ := I.mod.blt
  have hlim := I.nolimit
  have hgl : s.heap.Ns mainGlobals X.mg := I.mod.glob.keeps I.bk
  have hbl : s.heap.Ns builtinsNs mb := hb1.keeps I.bk
  obtain ⟨hp, g, d, t, os⟩ := s
  refine wpAny_call (sup_made T I.kIn hlim hgl hs hbl ((hb2 "super" (by decide)).trans (by first | rfl | decide +kernel | kernel_rfl)) (by have := hr.dp; omega) fun h' tk' e t1 k ge hx => ?_)
  obtain ⟨G', g1, g2⟩ := restrict h' fun b => decide (b ≠ e)
  have gk : ∀ b, b ≠ e → G'.get? b = h'.get? b := fun b hb => g1 b (decide_eq_true hb)
  have g0 : G'.get? e = none := g2 e (by simp)
  have old : ∀ b o, hp.get? b = some o → G'.get? b = some o := fun b o q => (gk b (Nat.ne_of_lt (Nat.lt_of_lt_of_le (Heap.lt_size q) ge))).trans (k b o q)
  have J : Inv X pins σ H ⟨G', g, d, tk', os⟩ := I.kept (t' := tk') old
  refine ⟨e, _, _, ⟨G', g, d, tk', os⟩, H, .ref C, none, rfl, J, fun b o q => ?_, g0, hx, ⟨rfl, rfl⟩, rfl, rfl, I.hok.fresh ge, rfl, I.bare, raises_own T.x.exC T.x.tyC, h⟩
  by_cases hb : b = e
  · have q' : G'.get? b = some o := q
    rw [hb, g0] at q'
    cases q'
  · exact (gk b hb).symm.trans q
end Fv
set_option maxRecDepth 100000
set_option maxHeartbeats 1000000
namespace Fv
open PySem PySem.Spec PyProof.Rows L2
/-! sorted(t), t a tuple of whole numbers -/
def rSortT (K : PySem.W.Frag) : List V → Hp → VK → Prop := fun vs H Q => ∃ (a : Addr) (ns : List Int), vs = [V.ref a] ∧ SqT K H a (ns.map V.int) ∧ ns.length < 64 ∧
  ∀ (zs : List Int) (p : Addr), zs.Perm ns → zs.Pairwise (· ≤ ·) → H p = none → Q (.ref p) (upd H p (.lst (zs.map V.int)))
theorem cr_sortT {X : Cx} {K : PySem.W.Frag} (e : X.K = K) : CallR X (.builtin "sorted") (rSortT K) := by
  subst e
  intro pins s σ H vs us Q I r h
  obtain ⟨a, ns, rfl, hs, h64, q⟩ := h
  obtain ⟨its, rv, pt, hz⟩ := I.tuple hs
  rw [Vals.ref1 r]
  have hi := rv.ints
  have hl : its.length = ns.length := hi.length
  obtain ⟨o, ho, hc, n, hd⟩ := id pt
  refine Calls.call_function_entry kind_sorted plain_sorted entry_sorted (args_sorted1 _) ?_
  unfold Builtin.«sorted»
  refine wpAny_bind (m := checkCount "sorted" 1 1 _) (wpAny_pure (wpAny_bind (wpAny_collect_seq a (.inr rfl) ho hc hd (fun h' k => wpAny_bind (wpAny_newList ?_)) ?_)))
  · have hoL : (h'.push (seqObj "list" its.toArray 0)).get? h'.objs.size = some (seqObj "list" its.toArray 0) := Heap.get?_push_size _ rfl
    have J : Inv X pins σ H { s with heap := h', toks := s.toks } := I.kept (t' := s.toks) k
    show wpAny _ _ _ _ _ { s with heap := h'.push (seqObj "list" its.toArray 0) }
    refine wpAny_bind (wpAny_holding (wpAny_call_entry slot_list_sort ⟨_, hoL, rfl⟩ entry_list_sort (list_sort_tree hoL hi (by rw [hl]; exact h64) fun out zs a1 a2 a3 => ⟨_, rfl, wpAny_pure ⟨_, rfl, ?_⟩⟩) (args_list_sort _)))
    obtain ⟨ep, he⟩ := sortedHeap_at (vs := its) (out := out) hoL
    have hlen : (zs.map V.int).length ≤ sizeLine := by rw [List.length_map, a2.length_eq]; exact szLe (by omega)
    refine ⟨.ref h'.objs.size, upd H h'.objs.size (.lst (zs.map V.int)), J.laid (t' := s.toks) (fun b u e => ?_) (Nat.le_refl _) ⟨hlen, out.toList, ep, vals_of_ints a1, he⟩, rfl, q zs _ a2 a3 (J.hok.fresh (Nat.le_refl _))⟩
    have hb := Heap.lt_size e
    refine (sortedHeap_old (Nat.ne_of_lt hb) (by rw [size_push']; exact Nat.lt_succ_of_lt hb)).trans ?_
    exact Heap.get?_push_of_some _ e
  · rw [List.size_toArray, hl]
    exact szLe (by omega)
end Fv
set_option maxRecDepth 100000
set_option maxHeartbeats 1000000
namespace Fv
open PySem PySem.Spec L2
section
variable {X : Cx} {K : PySem.W.Frag} {H : Hp} {Q : VK} {σ : L2.St} {a b : Addr} {xs ys : List V} {l m : List Nat}
theorem sl_tupAK (e : X.K = K) : SlR X (rSlA K) := by
  subst e
  exact sl_tupA
theorem op_catAK (e : X.K = K) : OpR X (binaryOp .Add) (rCatA K) := by
  subst e
  exact op_catA
theorem x_slA {lo hi : Option Int} (h : H a = some (.tup xs)) (q : ∀ D H', Same H H' → H' D = some (.tup (cutV xs lo hi)) → Q (.ref D) H') : rSlA K (.ref a) lo hi H Q := by
  refine ⟨a, xs, rfl, .of h, fun hw => ?_, fun _ p hp => q p _ (same_new (Same.refl _) hp) upd_same⟩
  refine q a H (Same.refl _) ?_
  rw [h]
  unfold cutV
  rw [hw.1, hw.2, List.drop_zero, Nat.sub_zero, List.take_length]
theorem x_catA (h1 : H a = some (.tup xs)) (h2 : H b = some (.tup ys)) (hl : xs.length + ys.length ≤ 10000) (q : ∀ D H', Same H H' → H' D = some (.tup (xs ++ ys)) → Q (.ref D) H') : rCatA K (.ref a) (.ref b) H Q := by
  refine ⟨a, b, xs, ys, rfl, rfl, .of h1, .of h2, szLe (by omega), fun e => ?_, fun _ e => ?_, fun _ _ p hp => q p _ (same_new (Same.refl _) hp) upd_same⟩
  · subst e
    exact q b H (Same.refl _) h2
  · subst e
    exact q a H (Same.refl _) (by rw [h1, List.append_nil])
theorem cut_take (xs : List V) (k : Nat) : cutV xs none (some (k : Int)) = xs.take k := by
  unfold cutV
  rw [HT.sIx_none, HT.sIx_nat, List.drop_zero, Nat.sub_zero]
  by_cases h : k ≤ xs.length
  · rw [Nat.min_eq_left h]
  · rw [Nat.min_eq_right (by omega), List.take_length, List.take_of_length_le (by omega)]
theorem cut_drop (xs : List V) (k : Nat) : cutV xs (some (k : Int)) none = xs.drop k := by
  unfold cutV
  rw [HT.sIx_nat, HT.sIx_none]
  by_cases h : k ≤ xs.length
  · rw [Nat.min_eq_left h]
    exact List.take_of_length_le (by rw [List.length_drop]; exact Nat.le_refl _)
  · rw [Nat.min_eq_right (by omega), List.drop_length, List.drop_of_length_le (by omega), List.take_nil]
theorem put_cut {hs : List Nat} {b p : Nat} (h1 : 1 ≤ b) (h2 : b ≤ hs.length) : (nats hs).take (b - 1) ++ [V.int (p : Nat)] ++ (nats hs).drop b = nats (put hs b p) := by
  have e : put hs b p = hs.take (b - 1) ++ p :: hs.drop (b - 1 + 1) := by
    unfold put
    rw [List.set_eq_take_append_cons_drop, if_pos (by omega)]
  rw [e, nats_append, Nat.sub_add_cancel h1, List.append_assoc]
  unfold nats
  rw [List.map_take, List.map_cons, List.map_drop]
  rfl
theorem x_eqLst (h1 : SqL K H a (nats l)) (h2 : SqL K H b (nats m)) (q : Q (.bl (decide (l = m))) H) : rEqD K (.ref a) (.ref b) H Q := by
  refine ⟨.list (dn l), .list (dn m), .lst h1 (dpAll_nats l), .lst h2 (dpAll_nats m), ?_, ?_, ?_⟩
  · have := dn_shaped l
    exact this
  · have := dn_shaped m
    exact this
  · rw [PyData.eqv, dn_eqv]
    exact q
theorem x_inNL {k : Nat} (h : SqL K H a (nats l)) (q : Q (.bl (decide (k ∈ l))) H) : rIn K false (.int k) (.ref a) H Q := by
  refine ⟨a, _, rfl, .inl h, rfl, flat_nats l, ?_⟩
  show Q (.bl (inV (.int k) (nats l))) H
  rw [in_nats]
  exact q
theorem take_snoc {α : Type} {l : List α} {i : Nat} {x : α} (h : l[i]? = some x) : l.take (i + 1) = l.take i ++ [x] := by
  rw [List.take_succ, h]
  rfl
theorem x_star {te : TE} {t : TA} {R : List V → Hp → Prop} (h : te σ H fun x H1 => ∃ p xs, x = V.ref p ∧ (SqT K H1 p xs ∨ SqL K H1 p xs) ∧ t σ H1 fun ys H2 => R (xs ++ ys) H2) : StX.tStar K te t σ H R := h
theorem x_sortT {ns : List Int} (h : SqT K H a (ns.map V.int)) (h64 : ns.length < 64) (q : ∀ (zs : List Int) (p : Addr), zs.Perm ns → zs.Pairwise (· ≤ ·) → H p = none → Q (.ref p) (upd H p (.lst (zs.map V.int)))) : rSortT K [.ref a] H Q := ⟨a, ns, rfl, h, h64, q⟩
/-- an order of all blocks, in order -/
theorem sorted_ord {n : Nat} {ms : List Nat} {zs : List Int} (o : IsOrd n ms) (hp : zs.Perm (ms.map fun (k : Nat) => (k : Int))) (hs : zs.Pairwise (· ≤ ·)) : zs.map V.int = nats (List.range' 1 n) := by
  have e : zs = (List.range' 1 n).map fun (k : Nat) => (k : Int) := by
    refine (hp.trans (o.map _)).eq_of_pairwise (fun a b _ _ h1 h2 => Int.le_antisymm h1 h2) hs ?_
    rw [List.pairwise_map]
    refine (List.pairwise_le_range' (s := 1) (n := n)).imp fun {x y} hxy => ?_
    exact Int.ofNat_le.mpr hxy
  rw [e, List.map_map]
  rfl
theorem nats_ints (l : List Nat) : (l.map fun (k : Nat) => (k : Int)).map V.int = nats l := by
  rw [List.map_map]
  rfl
theorem names_at {ms : List Nat} {k : Nat} (h : k ≤ ms.length) : atI (nats (0 :: ms)) (k : Int) = some (.int (up ms k : Nat)) := by
  refine nats_at ?_
  cases k with
  | zero => rfl
  | succ k => exact up_get (hs := ms) (k := k + 1) (by omega) h
end
theorem below_mem {hs : List Nat} {b p : Nat} (hp : p ≤ hs.length) : p ∈ (List.range' 1 hs.length).filter (fun c => decide (b ∈ way hs c)) ↔ b ∈ way hs p := by
  rw [List.mem_filter, List.mem_range'_1, decide_eq_true_eq]
  constructor
  · exact fun h => h.2
  · intro h
    refine ⟨⟨?_, by omega⟩, h⟩
    refine Nat.one_le_iff_ne_zero.mpr fun e => ?_
    subst e
    obtain ⟨j, _, nz, _⟩ := (way_mem hs b _ _).mp h
    exact nz (upN_zero hs j)
end Fv
set_option maxRecDepth 100000
set_option maxHeartbeats 1000000
namespace Fv
open PySem PySem.Spec PyProof.Rows L2
/-! x != y by x's own __eq__ -/
structure OwnN (K : PySem.W.Frag) (C f : Addr) : Prop where
  c : ∃ (nm q : Str) (N : Addr) (bs : List Value) (hd : Bool) (sn : List Str) (sub : List Value) (ab : Bool) (col : Option Bool) (dd : Option Addr) (k0 k1 k2 k3 k5 : Option Value) (newId : String),
    K.lookup C = some (excClassObj nm q C N bs [.type "object"] hd sn sub ab col dd k0 k1 k2 k3 k5 newId) ∧ PySem.W.nsOkIn K N = true ∧ PySem.W.nsIn K N "__eq__" = some (some (.ref f)) ∧ PySem.W.nsIn K N "__ne__" = some none
  t : PySem.W.typeIn K (.ref f) = some (.type "function")
theorem ns_some {K : PySem.W.Frag} {h : Heap} {N : Addr} {m : Str → Option Value} {n : Str} {v : Value} (X : K.In h) (G : h.Ns N m) (e : PySem.W.nsIn K N n = some (some v)) : m n = some v := by
  obtain ⟨o, es, ep, ho, hd, _, hf⟩ := G
  unfold PySem.W.nsIn at e
  split at e
  · rename_i c d es' n' sl q
    have z := X _ _ q
    rw [ho] at z
    cases z
    cases hd
    split at e
    · rename_i en he
      cases e
      rw [← hf]
      unfold nsFind findBy
      rw [← Array.find?_toList, he]
      rfl
    · split at e <;> cases e
  · cases e
def rOwnN (C : Addr) (sp : Sp) : R2 := fun x y H Q => ∃ (a b dx dy : Addr) (fs gs : List (Str × V)), x = .ref a ∧ y = .ref b ∧ H a = some (.ins C dx fs) ∧ H b = some (.ins C dy gs) ∧
  sp [.ref a, .ref b] H (fun v H' => ∃ r, v = .bl r ∧ Q (.bl (!r)) H') (fun _ _ _ => False)
theorem op_ownN {X : Cx} {C f : Addr} {fd : FuncData} {ps : List Str} {sp : Sp} {n : Nat} (O : OwnN X.K C f) (F : FnOk X.prog X.w X.K X.mg X.base CX0 n f fd ps sp) (hb : Binds X.K fd ps []) (hr : Room (n + 1) X.A) : OpR X (compareOp .NotEq) (rOwnN C sp) := by
  intro pins s σ H x y v u Q I rx ry h
  obtain ⟨a, b, dx, dy, fs, gs, rfl, rfl, ha, hB, hsp⟩ := h
  cases rx
  cases ry
  obtain ⟨nm, q, N, bs, hd, sn, sub, ab, col, dd, k0, k1, k2, k3, k5, newId, hC, n1, n2, n3⟩ := O.c
  obtain ⟨mA, J, _⟩ := ins_get I.hok ha
  obtain ⟨od, J, _⟩ := J.look
  obtain ⟨mB, J', _⟩ := ins_get I.hok hB
  obtain ⟨od', J', _⟩ := J'.look
  have KI := I.kIn
  have G : s.heap.Ns N (s.heap.nsMap N) := .of_isNs (PySem.W.isNs_of_in KI n1)
  obtain ⟨of, hof, hoc⟩ : ∃ of, s.heap.get? f = some of ∧ of.cls = .type "function" := by
    have e : (X.K.lookup f).map (·.cls) = some (.type "function") := O.t
    cases z : X.K.lookup f with
    | none =>
      rw [z] at e
      cases e
    | some of =>
      rw [z] at e
      exact ⟨of, KI _ _ z, Option.some.inj e⟩
  have W : s.heap.OwnEqNoNe a C f "object" [.type "object"] :=
    ⟨_, of, nm, q, N, bs, hd, sn, sub, ab, col, dd, k0, k1, k2, k3, k5, newId, s.heap.nsMap N, _, J.at_, J.cls, KI _ _ hC, G, ns_some KI G n2, hof, hoc, PySem.F.cmp_object.mro, PySem.F.cmp_object.eq.lookup, PySem.W.ns_none_of KI G n3⟩
  have hu : X.A.units + 1 < cLine := by have := hr.un; omega
  have hI0 := I.env0
  have r2 : Vals [V.ref a, V.ref b] [Value.ref a, Value.ref b] := .cons rfl (.cons rfl .nil)
  have hl : ([Value.ref a, Value.ref b] ++ []).length = ps.length := by rw [← (r2.append .nil).length]; exact F.len _ _ _ _ hsp
  have hbt := hb s [.ref a, .ref b] I.kIn hl
  have call := F.run X.A.in1 X.stack s H ⟨[.ref a, .ref b], []⟩ _ _ _ _ hr.in1 hI0.in1 hbt (r2.append .nil) hsp
  obtain ⟨hp, g, d, t, os⟩ := s
  refine PySem.richCompare_ne_ownEq PySem.F.cmp_object W J'.at_ J'.cls hu (wpAny_call (codeAny_mono call fun r s' hq => ?_))
  cases r with
  | error e => exact hq.elim
  | ok fl =>
    cases fl with
    | ret u =>
      obtain ⟨z, H', I', rz, r, ez, q⟩ := I.after hq
      subst ez
      cases rz
      exact ⟨_, rfl, .bl (!r), H', I', rfl, q⟩
    | next => exact False.elim hq
    | brk => exact False.elim hq
    | cont => exact False.elim hq
/-! t.index(k), t a tuple of whole numbers that holds k -/
def rTix (K : PySem.W.Frag) : V → List V → Hp → VK → Prop := fun x xs H Q => ∃ (p : Addr) (ns : List Int) (k : Int), x = .ref p ∧ xs = [.int k] ∧ SqT K H p (ns.map V.int) ∧ k ∈ ns ∧ Q (.int (ns.idxOf k : Nat)) H
theorem mt_tix {X : Cx} {K : PySem.W.Frag} (e : X.K = K) : MtR X "tuple.index" (rTix K) := by
  subst e
  intro pins s σ H x xs v us Q I rx rs h
  obtain ⟨p, ns, k, rfl, rfl, hq, hk, q⟩ := h
  cases rx
  obtain ⟨u, rfl, t, rfl⟩ := vals1 rs
  obtain ⟨its, r, pl, hz⟩ := I.tuple hq
  exact PySem.SeqAt.tuple_index_ints (isTuple_of pl) r.ints hk ⟨.int _, H, I.tok _, ⟨_, rfl⟩, q⟩
theorem x_tix {K : PySem.W.Frag} {H : Hp} {Q : VK} {p : Addr} {ms : List Nat} {k : Nat} (h : SqT K H p (nats ms)) (hk : k ∈ ms) (q : Q (.int (ms.idxOf k : Nat)) H) : rTix K (.ref p) [.int k] H Q := by
  refine ⟨p, ms.map fun (j : Nat) => (j : Int), k, rfl, rfl, by rw [nats_ints]; exact h, List.mem_map.mpr ⟨k, hk, rfl⟩, ?_⟩
  have e : (ms.map fun (j : Nat) => (j : Int)).idxOf (k : Int) = ms.idxOf k := by
    clear hk q h
    induction ms with
    | nil => rfl
    | cons m ms ih =>
      rw [List.map_cons, List.idxOf_cons, List.idxOf_cons, ih]
      have eb : ((m : Int) == (k : Int)) = (m == k) := by
        rw [Bool.eq_iff_iff, beq_iff_eq, beq_iff_eq]
        omega
      rw [eb]
  rw [e]
  exact q
/-- the order turned about -/
def turned (ms : List Nat) (n : Nat) : List Nat := (List.range' 1 n).map fun k => ms.idxOf k + 1
theorem turned_len (ms : List Nat) (n : Nat) : (turned ms n).length = n := by
  unfold turned
  rw [List.length_map, List.length_range']
theorem turned_up {ms : List Nat} {n k : Nat} (h1 : 1 ≤ k) (h2 : k ≤ n) : up (turned ms n) k = ms.idxOf k + 1 := by
  refine up_at (by omega) ?_
  unfold turned
  rw [List.getElem?_map, List.getElem?_range' (by omega)]
  show some (ms.idxOf (1 + 1 * (k - 1)) + 1) = _
  rw [show 1 + 1 * (k - 1) = k by omega]
theorem idx_up {ms : List Nat} {n b : Nat} (o : IsOrd n ms) (h1 : 1 ≤ b) (h2 : b ≤ n) : ms.idxOf (up ms b) + 1 = b := by
  have hg := up_get (hs := ms) h1 (by rw [o.len]; exact h2)
  obtain ⟨hl, he⟩ := List.getElem?_eq_some_iff.mp hg
  rw [← he, o.nodup.idxOf_getElem _ hl]
  omega
theorem turned_ord {n : Nat} {ms : List Nat} (o : IsOrd n ms) : IsOrd n (turned ms n) := by
  refine (List.perm_ext_iff_of_nodup ?_ List.nodup_range').mpr fun x => ?_
  · unfold turned
    refine List.pairwise_map.mpr ((List.Pairwise.and_mem.mp (show List.Pairwise (· ≠ ·) (List.range' 1 n) from List.nodup_range')).imp fun {a b} hab e => hab.2.2 ?_)
    have ha := hab.1
    have hb := hab.2.1
    have ra := List.mem_range'_1.mp ha
    have rb := List.mem_range'_1.mp hb
    have e2 : ms.idxOf a = ms.idxOf b := by omega
    have ia := List.getElem_idxOf (List.idxOf_lt_length_iff.mpr (o.mem.mpr ⟨by omega, by omega⟩ : a ∈ ms))
    have ib := List.getElem_idxOf (List.idxOf_lt_length_iff.mpr (o.mem.mpr ⟨by omega, by omega⟩ : b ∈ ms))
    rw [← ia, ← ib]
    congr 1
  · unfold turned
    rw [List.mem_map, List.mem_range'_1]
    constructor
    · rintro ⟨a, ha, rfl⟩
      have ra := List.mem_range'_1.mp ha
      have := List.idxOf_lt_length_iff.mpr (o.mem.mpr ⟨by omega, by omega⟩ : a ∈ ms)
      rw [o.len] at this
      omega
    · intro hx
      have r := o.rg (k := x) (by omega) (by omega)
      refine ⟨up ms x, List.mem_range'_1.mpr (by omega), idx_up o (by omega) (by omega)⟩
theorem turned_back {n b : Nat} {ms : List Nat} (o : IsOrd n ms) (h1 : 1 ≤ b) (h2 : b ≤ n) : up (turned ms n) (up ms b) = b := by
  have r := o.rg h1 h2
  rw [turned_up r.1 r.2, idx_up o h1 h2]
end Fv
set_option maxRecDepth 100000
set_option maxHeartbeats 1000000
namespace Fv
open PySem PySem.Spec PyProof.Rows L2
/-! a tuple of which it is known that it has no dict: its methods may be called -/
def FrT (H : Hp) (a : Addr) (xs : List V) : Prop := ∃ o : Obj, H a = some (.frz o (.tup xs)) ∧ o.cls = .type "tuple" ∧ o.dict = none
theorem FrT.sq {K : PySem.W.Frag} {H : Hp} {a : Addr} {xs : List V} (h : FrT H a xs) : SqT K H a xs := by
  obtain ⟨o, e, _, _⟩ := h
  exact .inl (.inr ⟨o, e⟩)
theorem FrT.same {H H' : Hp} {a : Addr} {xs : List V} (s : Same H H') (h : FrT H a xs) : FrT H' a xs := by
  obtain ⟨o, e, c, d⟩ := h
  exact ⟨o, s _ _ e, c, d⟩
theorem FrT.but {H H' : Hp} {p a : Addr} {xs : List V} (s : But p H H') (n : a ≠ p) (h : FrT H a xs) : FrT H' a xs := by
  obtain ⟨o, e, c, d⟩ := h
  exact ⟨o, s _ _ n e, c, d⟩
/-- tuple(l), l a list: a new tuple without a dict -/
def rTupF (K : PySem.W.Frag) : List V → Hp → VK → Prop := fun xs H Q => ∃ p ys, xs = [.ref p] ∧ SqL K H p ys ∧ ∀ l (o : Obj), H l = none → o.cls = .type "tuple" → o.dict = none → Q (.ref l) (upd H l (.frz o (.tup ys)))
theorem call_tupF {X : Cx} {K : PySem.W.Frag} (e : X.K = K) : CallR X (.type "tuple") (rTupF K) := by
  subst e
  intro pins s σ H xs us Q I r h
  obtain ⟨p, ys, rfl, hq, q⟩ := h
  obtain ⟨u, rfl, rx⟩ := vals1 r
  cases rx
  obtain ⟨its, r', pl, hz⟩ := I.list hq
  have hlen := r'.length
  refine call_tuple_list pl.isList (fun h' kp => ?_) (by simp only [List.size_toArray] <;> omega)
  have I1 : Inv X pins σ H { s with heap := h' } := I.kept (t' := s.toks) kp
  have at0 : (h'.push { cls := .type "tuple", data := .seq its.toArray }).get? h'.objs.size = some { cls := .type "tuple", data := .seq its.toArray } := Heap.get?_push_size _ rfl
  have I2 : Inv X pins σ (upd H h'.objs.size (.frz { cls := .type "tuple", data := .seq its.toArray } (.tup ys))) { s with heap := h'.push { cls := .type "tuple", data := .seq its.toArray } } := by
    refine I1.laid (t' := s.toks) (fun b o e => Heap.get?_push_of_some _ e) (Nat.le_refl _) ?_
    exact (show ObjOk X.prog X.w _ _ _ (.frz { cls := .type "tuple", data := .seq its.toArray } (.tup ys)) from ⟨at0, hz, its, r', IsTup.new _ _⟩)
  exact ⟨.ref h'.objs.size, _, I2, rfl, q _ _ (I1.hok.fresh (Nat.le_refl _)) rfl rfl⟩
/-- isinstance(t, tuple), t a tuple of any kind -/
def rIsT (K : PySem.W.Frag) : List V → Hp → VK → Prop := fun xs H Q => ∃ a ys, xs = [.ref a, .ty "tuple"] ∧ SqT K H a ys ∧ Q (.bl true) H
theorem call_isT {X : Cx} {K : PySem.W.Frag} (e : X.K = K) : CallR X (.builtin "isinstance") (rIsT K) := by
  subst e
  intro pins s σ H xs us Q I r h
  obtain ⟨a, ys, rfl, hq, q⟩ := h
  obtain ⟨u1, u2, rfl, r1, r2⟩ := vals2 r
  cases r1
  cases r2
  obtain ⟨its, r', ⟨o, h1, h2, _⟩, hz⟩ := I.tuple hq
  exact PySem.W.kia_one (K := X.K) (t := .type "tuple") PySem.W.kitx_tuple I.kIn ⟨o, h1, h2⟩ (if_pos (beq_self_eq_true _) : PySem.W.kitOne X.K (.type "tuple") (.type "tuple") = some true) (fun z => nomatch z) fun tk => ⟨.bl true, H, I.tok tk, rfl, q⟩
section
variable {X : Cx} {K : PySem.W.Frag} {o e : Expr} {es : List Expr} {to : TE} {t : TA} {name : Str} {apos cpos : Pos} {id : String} {r : V → List V → Hp → VK → Prop}
/-- t.m(..), t such a tuple -/
def tBT (r : V → List V → Hp → VK → Prop) (to : TE) (t : TA) : TE := fun σ H Q => to σ H fun x H1 => ∃ a ys, x = .ref a ∧ FrT H1 a ys ∧ t σ H1 fun xs H2 => r x xs H2 Q
theorem pe_bmT (slot : Slot "tuple" name id) (hty : typeOf (.builtin id) = pure (.type "method_descriptor")) (hm : MtR X id r) (ho : PE X o to) (ha : PA X (e :: es) t)
    (hbase : attributeBase o name X.env (eval o X.env) = eval o X.env := by rfl)
    (hfew : ((backTo cpos (starEach (e :: es) X.env)).all (fun x => !x.1) && (backToKw cpos (keywordEach [] X.env)).all (fun x => x.1.isSome) && decide ((e :: es).length + ([] : List Keyword).length + (if ([] : List Keyword).isEmpty then 0 else 1) < 30)) = true := by rfl)
    (hline : (apos.endLine == cpos.line) = true := by rfl) (hs : starEach (e :: es) X.env = (false, eval e X.env) :: starEach es X.env := by rfl) (hplain : (backTo cpos (starEach es X.env)).any (·.1) = false := by rfl) :
    PE X (.Call (.Attribute o name apos) (e :: es) [] cpos) (tBT r to t) := by
  refine ⟨fun pins s σ H Q I h => ?_⟩
  refine wpAny_Call_method_late hbase hfew hline rfl (thn (ho.run pins s σ H _ I h) fun v s1 ⟨x, H1, I1, r1, a, ys, ex, hf, q1⟩ => ?_)
  subst ex
  obtain rfl : v = Value.ref a := r1
  obtain ⟨ob, eo, hc, hd⟩ := hf
  obtain ⟨h0, _⟩ := (show ObjOk X.prog X.w H1 s1.heap a (.frz ob (.tup ys)) from I1.hok a _ eo)
  refine ⟨"tuple", id, PySem.F.plainAttrs_tuple, slot, hty, ⟨ob, h0, hc⟩, fun b eb => ?_, ?_⟩
  · cases eb
    exact ⟨ob, h0, hd⟩
  · have hA := ha.run cpos pins s1 σ H1 _ I1 q1
    rw [hs] at hA ⊢
    have hpl : ((false, eval e X.env) :: backTo cpos (starEach es X.env)).any (·.1) = false := by
      show (false || (backTo cpos (starEach es X.env)).any (·.1)) = false
      rw [hplain] <;> rfl
    refine Calls.callWith_builtin hpl (Calls.evalArgs_plain (thn hA fun us s2 ⟨vs, H2, I2, r2, q2⟩ => ?_))
    exact hm pins s2 σ H2 (.ref a) vs _ us Q I2 rfl r2 q2
end
theorem x_catA2 {K : PySem.W.Frag} {H : Hp} {Q : VK} {a b : Addr} {xs ys : List V} (h1 : SqT K H a xs) (h2 : SqT K H b ys) (nx : xs ≠ []) (ny : ys ≠ []) (hl : xs.length + ys.length ≤ 10000) (q : ∀ p, H p = none → Q (.ref p) (upd H p (.tup (xs ++ ys)))) : rCatA K (.ref a) (.ref b) H Q :=
  ⟨a, b, xs, ys, rfl, rfl, h1, h2, szLe (by omega), fun e => (nx e).elim, fun _ e => (ny e).elim, fun _ _ => q⟩
theorem nats_ne {l : List Nat} (h : 1 ≤ l.length) : nats l ≠ [] := fun e => by
  have := congrArg List.length e
  rw [nats_length] at this
  exact absurd this (by show ¬ l.length = 0; omega)
end Fv
set_option maxRecDepth 100000
set_option maxHeartbeats 1000000
namespace Fv
open PySem PySem.Spec PyProof.Rows L2
/-! comprehensions with two for -/
theorem lc2_list {K : PySem.W.Frag} {a : Addr} {xs : List V} {g : TG} {tt : TT} {vs : List Nat} {σ : L2.St} {H0 : Hp} {Qd : Hp → Prop} {Bd : L2.St → Hp → (Hp → Prop) → Prop} (Pv : Nat → Hp → Prop) (h0 : Pv 0 H0) (hl : ∀ i H, i ≤ xs.length → Pv i H → SqL K H a xs)
    (hs : ∀ i x H, xs[i]? = some x → Pv i H → g x (wipe σ vs) H fun σ2 H2 => wipe σ2 vs = wipe σ vs ∧ tt σ2 H2 fun b H3 => if b = true then Bd σ2 H3 (Pv (i + 1)) else Pv (i + 1) H3) (hd : ∀ H, Pv xs.length H → Qd H) :
    ∃ W : Nat → Nat → Hp → Prop, (∃ m, W 0 m H0) ∧ ∀ i m H, W i m H →
      ((Itl K a).stop i H ∧ Qd H) ∨ ((Itl K a).go i H ∧ ∃ Nx : Hp → Prop, (∀ H', Nx H' → ∃ m', m' < m ∧ W (i + 1) m' H') ∧ ∀ x H', (Itl K a).yld i H x H' → g x (wipe σ vs) H' fun σ2 H2 => wipe σ2 vs = wipe σ vs ∧ tt σ2 H2 fun b H3 =>
        if b = true then Bd σ2 H3 Nx else Nx H3) := by
  refine ⟨fun i m H => m = xs.length - i ∧ i ≤ xs.length ∧ Pv i H, ⟨xs.length, by simp, Nat.zero_le _, h0⟩, ?_⟩
  rintro i m H ⟨rfl, hi, p⟩
  have q := hl i H hi p
  by_cases hlt : i < xs.length
  · refine .inr ⟨⟨xs, xs[i], q, by simp [hlt]⟩, Pv (i + 1), fun H' p' => ⟨xs.length - (i + 1), by omega, rfl, hlt, p'⟩, fun x H' y => ?_⟩
    obtain ⟨e, y⟩ := y
    subst e
    exact hs i x _ (y xs q) p
  · have e : i = xs.length := by omega
    subst e
    exact .inl ⟨⟨xs, q, Nat.le_refl _⟩, hd H p⟩
theorem lc2_tup {K : PySem.W.Frag} {a : Addr} {xs : List V} {g : TG} {tt : TT} {vs : List Nat} {σ : L2.St} {H0 : Hp} {Qd : Hp → Prop} {Bd : L2.St → Hp → (Hp → Prop) → Prop} (Pv : Nat → Hp → Prop) (h0 : Pv 0 H0) (hl : ∀ i H, i ≤ xs.length → Pv i H → SqT K H a xs)
    (hs : ∀ i x H, xs[i]? = some x → Pv i H → g x (wipe σ vs) H fun σ2 H2 => wipe σ2 vs = wipe σ vs ∧ tt σ2 H2 fun b H3 => if b = true then Bd σ2 H3 (Pv (i + 1)) else Pv (i + 1) H3) (hd : ∀ H, Pv xs.length H → Qd H) :
    ∃ W : Nat → Nat → Hp → Prop, (∃ m, W 0 m H0) ∧ ∀ i m H, W i m H →
      ((Itt K a).stop i H ∧ Qd H) ∨ ((Itt K a).go i H ∧ ∃ Nx : Hp → Prop, (∀ H', Nx H' → ∃ m', m' < m ∧ W (i + 1) m' H') ∧ ∀ x H', (Itt K a).yld i H x H' → g x (wipe σ vs) H' fun σ2 H2 => wipe σ2 vs = wipe σ vs ∧ tt σ2 H2 fun b H3 =>
        if b = true then Bd σ2 H3 Nx else Nx H3) := by
  refine ⟨fun i m H => m = xs.length - i ∧ i ≤ xs.length ∧ Pv i H, ⟨xs.length, by simp, Nat.zero_le _, h0⟩, ?_⟩
  rintro i m H ⟨rfl, hi, p⟩
  have q := hl i H hi p
  by_cases hlt : i < xs.length
  · refine .inr ⟨⟨xs, xs[i], q, by simp [hlt]⟩, Pv (i + 1), fun H' p' => ⟨xs.length - (i + 1), by omega, rfl, hlt, p'⟩, fun x H' y => ?_⟩
    obtain ⟨e, y⟩ := y
    subst e
    exact hs i x _ (y xs q) p
  · have e : i = xs.length := by omega
    subst e
    exact .inl ⟨⟨xs, q, Nat.le_refl _⟩, hd H p⟩
/-! lists of pairs -/
def PrV (H : Hp) (v : V) (x : Nat × Nat) : Prop := ∃ t, v = .ref t ∧ H t = some (.tup [.int (x.1 : Nat), .int (x.2 : Nat)])
def PrsV (H : Hp) : List V → List (Nat × Nat) → Prop
  | [], [] => True
  | v :: vs, x :: xs => PrV H v x ∧ PrsV H vs xs
  | [], _ :: _ => False
  | _ :: _, [] => False
theorem PrV.same {H H' : Hp} {v : V} {x : Nat × Nat} (s : Same H H') (h : PrV H v x) : PrV H' v x := by
  obtain ⟨t, e, h⟩ := h
  exact ⟨t, e, s _ _ h⟩
theorem PrV.mut {H : Hp} {v : V} {x : Nat × Nat} {q : Addr} {ys : List V} {o : HO} (hq : H q = some (.lst ys)) (h : PrV H v x) : PrV (upd H q o) v x := by
  obtain ⟨t, e, h⟩ := h
  refine ⟨t, e, keepM (fun z => ?_) h⟩
  rw [z, hq] at h
  cases h
theorem PrsV.imp {H H' : Hp} (f : ∀ v x, PrV H v x → PrV H' v x) : ∀ {vs : List V} {xs : List (Nat × Nat)}, PrsV H vs xs → PrsV H' vs xs
  | [], [], _ => True.intro
  | _ :: _, _ :: _, h => ⟨f _ _ h.1, PrsV.imp f h.2⟩
  | [], _ :: _, h => h.elim
  | _ :: _, [], h => h.elim
theorem PrsV.same {H H' : Hp} {vs : List V} {xs : List (Nat × Nat)} (s : Same H H') (h : PrsV H vs xs) : PrsV H' vs xs := h.imp fun _ _ k => k.same s
theorem PrsV.mut {H : Hp} {vs : List V} {xs : List (Nat × Nat)} {q : Addr} {ys : List V} {o : HO} (hq : H q = some (.lst ys)) (h : PrsV H vs xs) : PrsV (upd H q o) vs xs := h.imp fun _ _ k => k.mut hq
theorem PrsV.app {H : Hp} : ∀ {vs ws : List V} {xs ys : List (Nat × Nat)}, PrsV H vs xs → PrsV H ws ys → PrsV H (vs ++ ws) (xs ++ ys)
  | [], _, [], _, _, h => h
  | _ :: _, _, _ :: _, _, h, k => ⟨h.1, PrsV.app h.2 k⟩
  | [], _, _ :: _, _, h, _ => h.elim
  | _ :: _, _, [], _, h, _ => h.elim
theorem PrsV.len {H : Hp} : ∀ {vs : List V} {xs : List (Nat × Nat)}, PrsV H vs xs → vs.length = xs.length
  | [], [], _ => rfl
  | _ :: _, _ :: _, h => congrArg (· + 1) (PrsV.len h.2)
  | [], _ :: _, h => h.elim
  | _ :: _, [], h => h.elim
theorem PrsV.at {H : Hp} : ∀ {vs : List V} {xs : List (Nat × Nat)} {i : Nat} {v : V}, PrsV H vs xs → vs[i]? = some v → ∃ x, xs[i]? = some x ∧ PrV H v x
  | [], [], _, _, _, h => by cases h
  | _ :: _, x :: _, 0, _, h, e => by
    have e' := Option.some.inj e
    subst e'
    exact ⟨x, rfl, h.1⟩
  | _ :: _, _ :: _, i + 1, _, h, e => PrsV.at (i := i) h.2 e
  | [], _ :: _, _, _, h, _ => h.elim
  | _ :: _, [], _, _, h, _ => h.elim
/-- what a pair's value tells -/
def keyOf (H : Hp) (v : V) : Int × Int := match v with
  | .ref t => match H t with
    | some (.tup [.int a, .int b]) => (a, b)
    | _ => (0, 0)
  | _ => (0, 0)
def natsOf (H : Hp) (v : V) : Nat × Nat := ((keyOf H v).1.toNat, (keyOf H v).2.toNat)
theorem PrV.key {H : Hp} {v : V} {x : Nat × Nat} (h : PrV H v x) : keyOf H v = ((x.1 : Int), (x.2 : Int)) := by
  obtain ⟨t, rfl, h⟩ := h
  unfold keyOf
  dsimp only
  rw [h]
theorem PrV.nats {H : Hp} {v : V} {x : Nat × Nat} (h : PrV H v x) : natsOf H v = x := by
  unfold natsOf
  rw [h.key]
  rfl
theorem PrsV.nats {H : Hp} : ∀ {vs : List V} {xs : List (Nat × Nat)}, PrsV H vs xs → vs.map (natsOf H) = xs
  | [], [], _ => rfl
  | v :: vs, x :: xs, h => by rw [List.map_cons, h.1.nats, PrsV.nats h.2]
  | [], _ :: _, h => h.elim
  | _ :: _, [], h => h.elim
theorem PrsV.of {H : Hp} : ∀ {vs : List V}, (∀ v ∈ vs, ∃ x, PrV H v x) → PrsV H vs (vs.map (natsOf H))
  | [], _ => True.intro
  | v :: vs, h => by
    obtain ⟨x, hx⟩ := h v List.mem_cons_self
    exact ⟨by rw [hx.nats]; exact hx, PrsV.of fun w hw => h w (List.mem_cons_of_mem _ hw)⟩
theorem PrsV.all {H : Hp} {vs : List V} {xs : List (Nat × Nat)} (h : PrsV H vs xs) {v : V} (hv : v ∈ vs) : ∃ x, PrV H v x := by
  obtain ⟨i, hi, e⟩ := List.getElem_of_mem hv
  obtain ⟨x, _, hx⟩ := h.at (i := i) (v := v) (by rw [List.getElem?_eq_getElem hi, e])
  exact ⟨x, hx⟩
theorem cr_sortedPO' {X : Cx} {K : PySem.W.Frag} (e : X.K = K) : CallR X (.builtin "sorted") (rSortedPO K) := by
  subst e
  exact cr_sortedPO
theorem x_sortP {K : PySem.W.Frag} {H : Hp} {Q : VK} {a : Addr} {hs : List Nat} {d k : Nat} {vs : List V} (t : IsTree hs) (hk : k ≤ hs.length) (h : SqL K H a vs) (hp : PrsV H vs (withUp hs (acc hs k d))) (q : ∀ ys p, PrsV H ys (tiesN hs d k) → H p = none → Q (.ref p) (upd H p (.lst ys))) : rSortedPO K [.ref a] H Q := by
  refine ⟨a, vs, keyOf H, rfl, h, fun v hv => ?_, fun ys p hs1 hs2 hn => ?_⟩
  · obtain ⟨x, hx⟩ := hp.all hv
    obtain ⟨t, e1, e2⟩ := id hx
    refine ⟨t, e1, ?_⟩
    rw [hx.key]
    exact e2
  · have pm := hs2.perm
    have hy : PrsV H ys (ys.map (natsOf H)) := PrsV.of fun v hv => hp.all (pm.mem_iff.mp hv)
    refine q ys p ?_ hn
    have e : ys.map (natsOf H) = tiesN hs d k := by
      refine ties_sorted t hk ?_ ?_
      · rw [← hp.nats]
        exact pm.map _
      · rw [List.pairwise_map]
        refine (List.Pairwise.and_mem.mp hs1).imp fun {x y} hxy => ?_
        obtain ⟨m1, m2, lt⟩ := hxy
        obtain ⟨a1, ha⟩ := hp.all (pm.mem_iff.mp m1)
        obtain ⟨b1, hb⟩ := hp.all (pm.mem_iff.mp m2)
        rw [ha.nats, hb.nats]
        have lt : SrtO.lexB (keyOf H y) (keyOf H x) = false := lt
        rw [ha.key, hb.key] at lt
        unfold ltPr
        intro z
        refine Bool.false_ne_true (lt.symm.trans (SrtO.lexB_iff.mpr ?_))
        show ((b1.1 : Nat) : Int) < ((a1.1 : Nat) : Int) ∨ ((b1.1 : Nat) : Int) = ((a1.1 : Nat) : Int) ∧ ((b1.2 : Nat) : Int) < ((a1.2 : Nat) : Int)
        omega
    rw [← e]
    exact hy
end Fv
set_option maxRecDepth 100000
set_option maxHeartbeats 1000000
namespace Fv
open PySem PySem.Spec PyProof.Rows L2
def pD (x : Nat × Nat) : PyData := .tuple [.int (Int.ofNat x.1), .int (Int.ofNat x.2)]
def pds (ts : List (Nat × Nat)) : List PyData := ts.map pD
theorem pds_lay : ∀ l, PyData.canLayAll0 (pds l) = true
  | [] => rfl
  | a :: l => by
    show (PyData.canLay0 (pD a) && PyData.canLayAll0 (pds l)) = true
    rw [pds_lay l]
    rfl
theorem pds_depth : ∀ l, PyData.depthAll (pds l) ≤ 1
  | [] => Nat.zero_le _
  | a :: l => by
    show max (PyData.depth (pD a)) (PyData.depthAll (pds l)) ≤ 1
    have e : PyData.depth (pD a) = 1 := rfl
    rw [e]
    have := pds_depth l
    omega
theorem pD_eqv (a b : Nat × Nat) : PyData.eqv (pD a) (pD b) = decide (a = b) := by
  show PyData.eqv (.tuple [.int (Int.ofNat a.1), .int (Int.ofNat a.2)]) (.tuple [.int (Int.ofNat b.1), .int (Int.ofNat b.2)]) = _
  obtain ⟨a1, a2⟩ := a
  obtain ⟨b1, b2⟩ := b
  rw [PyData.eqv, PyData.eqvAll, PyData.eqvAll, PyData.eqvAll, PyData.eqv, PyData.eqv, Bool.eq_iff_iff]
  simp
  omega
theorem pds_eqv : ∀ l m, PyData.eqvAll (pds l) (pds m) = decide (l = m)
  | [], [] => by simp [pds, PyData.eqvAll]
  | [], _ :: _ => by simp [pds, PyData.eqvAll]
  | _ :: _, [] => by simp [pds, PyData.eqvAll]
  | a :: l, b :: m => by
    show PyData.eqvAll (pD a :: pds l) (pD b :: pds m) = _
    rw [PyData.eqvAll, pds_eqv l m, pD_eqv, Bool.eq_iff_iff]
    simp
def telPD (r : List Nat) (ts : List (Nat × Nat)) : PyData := .tuple [.tuple (dn r), .tuple (pds ts)]
theorem telPD_shaped (r : List Nat) (ts : List (Nat × Nat)) : SeqAt.shaped (telPD r ts) = true := by
  show (PyData.canLayAll0 [.tuple (dn r), .tuple (pds ts)] && decide (PyData.depthAll [.tuple (dn r), .tuple (pds ts)] + 1 ≤ 64)) = true
  have e1 : PyData.canLayAll0 [.tuple (dn r), .tuple (pds ts)] = true := by
    show (PyData.canLayAll0 (dn r) && (PyData.canLayAll0 (pds ts) && true)) = true
    rw [dn_lay, pds_lay]
    rfl
  have e2 : PyData.depthAll [.tuple (dn r), .tuple (pds ts)] + 1 ≤ 64 := by
    show max (PyData.depthAll (dn r) + 1) (max (PyData.depthAll (pds ts) + 1) 0) + 1 ≤ 64
    have := pds_depth ts
    rw [dn_depth]
    omega
  rw [e1, decide_eq_true e2]
  rfl
theorem telPD_eqv (r r' : List Nat) (ts ts' : List (Nat × Nat)) : PyData.eqv (telPD r ts) (telPD r' ts') = (decide (r = r') && decide (ts = ts')) := by
  show PyData.eqv (.tuple [.tuple (dn r), .tuple (pds ts)]) (.tuple [.tuple (dn r'), .tuple (pds ts')]) = _
  rw [PyData.eqv, PyData.eqvAll, PyData.eqvAll, PyData.eqvAll, PyData.eqv, PyData.eqv, dn_eqv, pds_eqv]
  simp
/-- a value that is a telling -/
def TelAt (H : Hp) (v : V) (r : List Nat) (ts : List (Nat × Nat)) : Prop := ∃ (a b c : Addr) (vs : List V), v = .ref a ∧ H a = some (.tup [.ref b, .ref c]) ∧ H b = some (.tup (nats r)) ∧ H c = some (.tup vs) ∧ PrsV H vs ts
theorem TelAt.same {H H' : Hp} {v : V} {r : List Nat} {ts : List (Nat × Nat)} (s : Same H H') (h : TelAt H v r ts) : TelAt H' v r ts := by
  obtain ⟨a, b, c, vs, e, h1, h2, h3, h4⟩ := h
  exact ⟨a, b, c, vs, e, s _ _ h1, s _ _ h2, s _ _ h3, h4.same s⟩
section
variable {K : PySem.W.Frag} {H : Hp} {Q : VK}
theorem PrsV.dp : ∀ {vs : List V} {ts : List (Nat × Nat)}, PrsV H vs ts → DpAll K H vs (pds ts)
  | [], [], _ => .nil
  | v :: vs, x :: xs, h => by
    obtain ⟨t, e, ht⟩ := h.1
    subst e
    exact .cons (.tup (.of ht) (.cons (.int _) (.cons (.int _) .nil))) (PrsV.dp h.2)
  | [], _ :: _, h => h.elim
  | _ :: _, [], h => h.elim
theorem TelAt.dp {v : V} {r : List Nat} {ts : List (Nat × Nat)} (h : TelAt H v r ts) : Dp K H v (telPD r ts) := by
  obtain ⟨a, b, c, vs, e, h1, h2, h3, h4⟩ := h
  subst e
  exact .tup (.of h1) (.cons (.tup (.of h2) (dpAll_nats r)) (.cons (.tup (.of h3) h4.dp) .nil))
theorem x_neTel {x y : V} {r r' : List Nat} {ts ts' : List (Nat × Nat)} (h1 : TelAt H x r ts) (h2 : TelAt H y r' ts') (q : Q (.bl (!(decide (r = r') && decide (ts = ts')))) H) : rNeD K x y H Q := by
  refine ⟨telPD r ts, telPD r' ts', h1.dp, h2.dp, telPD_shaped _ _, telPD_shaped _ _, ?_⟩
  rw [telPD_eqv]
  exact q
theorem Al.pair {n : Nat} {v w : V} {x : Nat × Nat} (h1 : PrV H v x) (h2 : PrV H w x) : Al K H (n + 1) v w := by
  obtain ⟨t, e, ht⟩ := h1
  obtain ⟨u, e', hu⟩ := h2
  subst e e'
  refine Al.tups ht hu (by show 2 ≤ 1000; decide) fun z hz => ?_
  rcases List.mem_cons.mp hz with rfl | hz
  · rfl
  · rw [List.mem_singleton.mp hz]
    rfl
theorem TelAt.al {v w : V} {r : List Nat} {ts : List (Nat × Nat)} (hr : r.length ≤ 1000) (hts : ts.length ≤ 1000) (h1 : TelAt H v r ts) (h2 : TelAt H w r ts) : Al K H 3 v w := by
  obtain ⟨a, b, c, vs, e, h1, h2', h3, h4⟩ := h1
  obtain ⟨a', b', c', vs', e', k1, k2, k3, k4⟩ := h2
  subst e e'
  refine .inr (.inr ⟨a, a', _, _, rfl, rfl, h1, k1, rfl, (by show 2 ≤ 1000; decide), fun i hi1 hi2 => ?_⟩)
  match i with
  | 0 => exact Al.tups h2' k2 (by rw [nats_length]; exact hr) nats_sca
  | 1 =>
    refine .inr (.inr ⟨c, c', vs, vs', rfl, rfl, h3, k3, h4.len.trans k4.len.symm, by rw [k4.len]; exact hts, fun j hj1 hj2 => ?_⟩)
    obtain ⟨x, hx, px⟩ := h4.at (List.getElem?_eq_getElem hj1)
    obtain ⟨y, hy, py⟩ := k4.at (List.getElem?_eq_getElem hj2)
    rw [hx] at hy
    cases hy
    exact Al.pair px py
  | i + 2 => exact absurd hi1 (by show ¬ i + 2 < 2; omega)
end
end Fv
set_option maxRecDepth 100000
set_option maxHeartbeats 1000000
namespace Fv
open PySem PySem.Spec PyProof.Rows L2
/-! range(n), kept by a name -/
def rRng1 : List V → Hp → VK → Prop := fun vs H Q => ∃ j : Int, vs = [V.int j] ∧ ∀ p, H p = none → Q (.ref p) (upd H p (.rng 0 j))
theorem call_rng1 {X : Cx} : CallR X (.type "range") rRng1 := by
  intro pins s σ H vs us Q I r h
  obtain ⟨j, rfl, q⟩ := h
  obtain ⟨u1, rfl, ri⟩ := vals1 r
  obtain ⟨t, rfl⟩ := ri
  refine call_range_1 ⟨.ref s.heap.objs.size, upd H s.heap.objs.size (.rng 0 j), I.laid (fun b o e => Heap.get?_push_of_some _ e) (Nat.le_refl _) ?_, rfl, q _ (I.hok.fresh (Nat.le_refl _))⟩
  exact ⟨_, _, _, Heap.get?_push_size _ rfl⟩
theorem pi_tupK {X : Cx} {K : PySem.W.Frag} {tg e : Expr} {te : TE} (eK : X.K = K) (he : PE X e te) : PI X tg e (iTup K te) := by
  subst eK
  exact pi_tup he
theorem pi_listK {X : Cx} {K : PySem.W.Frag} {tg e : Expr} {te : TE} (eK : X.K = K) (he : PE X e te) : PI X tg e (iList K te) := by
  subst eK
  exact pi_list he
theorem nats_take (l : List Nat) (n : Nat) : (nats l).take n = nats (l.take n) := by
  unfold nats
  rw [List.map_take]
section
variable {K : PySem.W.Frag} {H : Hp} {Q : VK} {l b p : Addr} {xs zs : List V}
theorem x_rngA1 {j : Int} (q : ∀ p, H p = none → Q (.ref p) (upd H p (.rng 0 j))) : rRng1 [.int j] H Q := ⟨j, rfl, q⟩
theorem x_extend (h1 : H l = some (.lst xs)) (h2 : H b = some (.lst zs)) (hz : xs.length + zs.length ≤ 10000) (q : Q .non (upd H l (.lst (xs ++ zs)))) : rExtend (.ref l) [.ref b] H Q := ⟨l, b, xs, zs, rfl, rfl, h1, h2, szLe (by omega), q⟩
theorem range0_snoc (g : Nat → Bool) (n : Nat) : (List.range (n + 1)).filter g = (List.range n).filter g ++ if g n = true then [n] else [] := by
  rw [List.range_succ, List.filter_append]
  congr 1
  by_cases h : g n = true
  · rw [if_pos h, List.filter_cons_of_pos h]
    rfl
  · rw [if_neg h, List.filter_cons_of_neg h]
    rfl
theorem all_true (n : Nat) : ((List.replicate n true).map V.bl).length = n := by rw [List.length_map, List.length_replicate]
end
end Fv
set_option maxRecDepth 100000
set_option maxHeartbeats 1000000
namespace Fv
open PySem PySem.Spec PyProof.Rows L2
/-! lists of lists of pairs that are written in turn -/
def TsAt (H : Hp) (as : List Addr) (g : Nat → List (Nat × Nat)) : Prop := ∀ p a, as[p]? = some a → ∃ vs, H a = some (.lst vs) ∧ PrsV H vs (g p)
theorem TsAt.same {H H' : Hp} {as : List Addr} {g : Nat → List (Nat × Nat)} (s : Same H H') (h : TsAt H as g) : TsAt H' as g := fun p a e => by
  obtain ⟨vs, h1, h2⟩ := h p a e
  exact ⟨vs, s _ _ h1, h2.same s⟩
theorem TsAt.mut {H : Hp} {as : List Addr} {g : Nat → List (Nat × Nat)} {q : Addr} {ys : List V} {o : HO} (hq : H q = some (.lst ys)) (n : q ∉ as) (h : TsAt H as g) : TsAt (upd H q o) as g := fun p a e => by
  obtain ⟨vs, h1, h2⟩ := h p a e
  exact ⟨vs, keepM (fun z => n (by rw [← z]; exact List.mem_of_getElem? e)) h1, h2.mut hq⟩
theorem TsAt.congr {H : Hp} {as : List Addr} {g g' : Nat → List (Nat × Nat)} (e : ∀ p, p < as.length → g p = g' p) (h : TsAt H as g) : TsAt H as g' := fun p a ha => by
  rw [← e p (List.getElem?_eq_some_iff.mp ha).1]
  exact h p a ha
theorem TsAt.step {H : Hp} {as : List Addr} {g : Nat → List (Nat × Nat)} {q : Nat} {a U : Addr} {vs : List V} {x : Nat × Nat} (hn : as.Nodup) (h : TsAt H as g) (ha : as[q]? = some a) (hU : H U = some (.tup [.int (x.1 : Nat), .int (x.2 : Nat)])) (hv : H a = some (.lst vs)) (hp : PrsV H vs (g q)) :
    TsAt (upd H a (.lst (vs ++ [.ref U]))) as (fun p => g p ++ if p = q then [x] else []) := fun p b e => by
  have nUa : U ≠ a := fun z => by
    rw [z, hv] at hU
    cases hU
  by_cases hpq : p = q
  · subst hpq
    rw [ha] at e
    cases e
    refine ⟨_, upd_same, ?_⟩
    dsimp only
    rw [if_pos rfl]
    exact (hp.mut hv).app ⟨⟨U, rfl, keepM nUa hU⟩, True.intro⟩
  · obtain ⟨ws, h1, h2⟩ := h p b e
    refine ⟨ws, keepM (fun z => hpq ?_) h1, ?_⟩
    · subst z
      exact (List.getElem?_inj (List.getElem?_eq_some_iff.mp e).1 hn).mp (e.trans ha.symm)
    · dsimp only
      rw [if_neg hpq, List.append_nil]
      exact h2.mut hv
theorem refs_at {as : List Addr} {p : Nat} {a : Addr} (e : as[p]? = some a) : atI (as.map V.ref) (p : Int) = some (.ref a) := by
  refine atI_nat ?_
  rw [List.getElem?_map, e]
  rfl
theorem cr_sortedK {X : Cx} {K : PySem.W.Frag} (e : X.K = K) : CallR X (.builtin "sorted") (rSorted K) := by
  subst e
  exact cr_sorted
end Fv
set_option maxRecDepth 100000
set_option maxHeartbeats 1000000
namespace Fv
open PySem PySem.Spec PyProof.Rows L2
section
variable {K : PySem.W.Frag} {H : Hp} {Q : VK} {a : Addr} {l : List Nat} {k : Nat}
theorem x_ninNT (h : SqT K H a (nats l)) (q : Q (.bl (!decide (k ∈ l))) H) : rIn K true (.int k) (.ref a) H Q := by
  refine ⟨a, _, rfl, .inr h, rfl, flat_nats l, ?_⟩
  show Q (.bl (!inV (.int k) (nats l))) H
  rw [in_nats]
  exact q
theorem x_ninNL (h : SqL K H a (nats l)) (q : Q (.bl (!decide (k ∈ l))) H) : rIn K true (.int k) (.ref a) H Q := by
  refine ⟨a, _, rfl, .inl h, rfl, flat_nats l, ?_⟩
  show Q (.bl (!inV (.int k) (nats l))) H
  rw [in_nats]
  exact q
/-- whole numbers in order -/
theorem x_sortN {ys : List Nat} (h : SqL K H a (nats l)) (hl : l.length < 64) (hp : l.Perm ys) (hs : ys.Pairwise (· < ·)) (q : ∀ p, H p = none → Q (.ref p) (upd H p (.lst (nats ys)))) : rSorted K [.ref a] H Q := by
  refine ⟨a, l.map fun (k : Nat) => (k : Int), rfl, by rw [nats_ints]; exact h, by rw [List.length_map]; exact hl, fun zs p hz hw hn => ?_⟩
  have e : zs = ys.map fun (k : Nat) => (k : Int) := by
    refine (hz.trans (hp.map _)).eq_of_pairwise (fun a b _ _ h1 h2 => Int.le_antisymm h1 h2) hw ?_
    rw [List.pairwise_map]
    refine hs.imp fun {x y} hxy => ?_
    omega
  rw [e, nats_ints]
  exact q p hn
theorem put_same {hs : List Nat} {b : Nat} (h1 : 1 ≤ b) (h2 : b ≤ hs.length) : put hs b (up hs b) = hs := by
  refine same_ups (put_len _ _ _) fun k _ _ => ?_
  rw [up_put h1 h2]
  split
  · rename_i e
    rw [e]
  · rfl
end
end Fv
set_option maxRecDepth 100000
set_option maxHeartbeats 4000000
namespace Fv
open PySem PySem.Spec PyProof.Rows L2
/-! t * k, k any number -/
theorem tuple_mulW1 (l : Addr) (items : Array Value) (n : Nat) (dd : Option Addr) (sl : Array (Option Value)) (u : Tok) :
    Meets (Builtin.«tuple.__mul__» ⟨[.ref l, .int 1 u], []⟩) (fun _ R s => s.heap.get? l = some { cls := .type "tuple", dict := dd, data := .seq items n, slots := sl } ∧ R (.ok (.ret (Value.ref l))) s) :=
  .of_wp fun prog w A R s h => by
    obtain ⟨hp, g, d, tk, os⟩ := s
    obtain ⟨hl, h⟩ := h
    have f1 := AutoSeq1.idx_int
    have c1 : (items.isEmpty || (1 : Int) == 1) = true := by rw [Bool.or_eq_true]; exact .inr rfl
    wp_walk using wpAny_loadPart' hl
    repeat (first
      | (refine wpAny_ite_true (decide_eq_true c1) ?_; wp_walk using wpAny_loadPart' hl)
      | (refine wpAny_ite_false (by decide) ?_; wp_walk using wpAny_loadPart' hl))
    exact ⟨_, rfl, h⟩
theorem tuple_mulW0 (l : Addr) (items : Array Value) (n : Nat) (dd : Option Addr) (sl : Array (Option Value)) (x : Int) (u : Tok) (c0 : (decide (x < -(2 ^ 63)) || decide (x ≥ 2 ^ 63)) = false) (c1 : (items.isEmpty || x == 1) = false) (c2 : (decide (x ≤ 0) || items.isEmpty) = true) :
    Meets (Builtin.«tuple.__mul__» ⟨[.ref l, .int x u], []⟩) (fun _ R s => s.heap.get? l = some { cls := .type "tuple", dict := dd, data := .seq items n, slots := sl } ∧
      R (.ok (.ret (Value.ref s.heap.objs.size))) { s with heap := s.heap.push { cls := Value.type "tuple", data := Data.seq #[] }, toks := s.toks }) :=
  .of_wp fun prog w A R s h => by
    obtain ⟨hp, g, d, tk, os⟩ := s
    obtain ⟨hl, h⟩ := h
    have f1 := AutoSeq1.idx_int
    wp_walk using wpAny_loadPart' hl
    repeat (first
      | (refine wpAny_ite_false (decide_eq_false (by rw [c0]; exact Bool.false_ne_true)) ?_; wp_walk using wpAny_loadPart' hl)
      | (refine wpAny_ite_false (decide_eq_false (by rw [c1]; exact Bool.false_ne_true)) ?_; wp_walk using wpAny_loadPart' hl)
      | (refine wpAny_ite_true (decide_eq_true c2) ?_; wp_walk using wpAny_loadPart' hl)
      | (refine wpAny_ite_false (by decide) ?_; wp_walk using wpAny_loadPart' hl))
    exact ⟨_, rfl, h⟩
def rRepA (K : PySem.W.Frag) : R2 := fun x y H Q => ∃ (l : Addr) (k : Int) (xs : List V), x = .ref l ∧ y = .int k ∧ SqT K H l xs ∧ xs ≠ [] ∧ -1000 ≤ k ∧ k ≤ 1000 ∧ xs.length ≤ 1000 ∧ (k = 1 → Q (.ref l) H) ∧ (k ≤ 0 → ∀ p, H p = none → Q (.ref p) (upd H p (.tup []))) ∧ (2 ≤ k → ∀ p, H p = none → Q (.ref p) (upd H p (.tup (List.replicate k.toNat xs).flatten)))
theorem op_repA {X : Cx} : OpR X (binaryOp .Mult) (rRepA X.K) := by
  intro pins s σ H x y v u Q I rx ry h
  obtain ⟨l, k, xs, rfl, rfl, hT, hne, h1, h2, hz, q1, q0, q2⟩ := h
  by_cases hk : 2 ≤ k
  · exact op_repT pins s σ H _ _ v u Q I rx ry ⟨l, k, xs, rfl, rfl, hT, hne, hk, h2, hz, q2 hk⟩
  cases rx
  obtain ⟨t, rfl⟩ := ry
  obtain ⟨its, r, ⟨⟨cls, dd, data, sl⟩, ho, hc, n, hd⟩, hs⟩ := I.tuple hT
  simp only at hc hd
  subst hc hd
  have hle : its.length = xs.length := r.length.symm
  have hn : its ≠ [] := fun e => hne (by
    rw [e] at hle
    exact List.eq_nil_of_length_eq_zero hle.symm)
  have hi : its.toArray.isEmpty = false := by
    cases its with
    | nil => exact absurd rfl hn
    | cons a b => rfl
  by_cases k1 : k = 1
  · subst k1
    exact wpAny_binaryOp_repeat_ref (T := "tuple") (U := "int") (by decide) ⟨_, ho, rfl⟩ (fun s' => typeIs_int s' 1 t) noFill_tuple_mul F.fills_int_mul F.slot_int_rmul repeat_tuple F.slot_int_index.lookup
      (call_meets F.slot_int_rmul (typeIs_int s 1 t) F.entry_int_rmul (F.args_int_rmul_2 _ _) (int_rmul_tuple 1 t l its.toArray n dd sl)
        ⟨ho, rfl, ⟨_, ho, rfl⟩, call_meets F.slot_tuple_mul ⟨_, ho, rfl⟩ F.entry_tuple_mul (F.args_tuple_mul_2 _ _) (tuple_mulW1 l its.toArray n dd sl t) ⟨ho, .ref l, H, I, rfl, q1 rfl⟩⟩)
  · have c0 : (decide (k < -(2 ^ 63)) || decide (k ≥ 2 ^ 63)) = false := by
      rw [decide_eq_false (by omega), decide_eq_false (by omega)] <;> rfl
    have c1 : (its.toArray.isEmpty || k == 1) = false := by
      rw [hi, Bool.false_or]
      exact beq_eq_false_iff_ne.mpr (by omega)
    have c2 : (decide (k ≤ 0) || its.toArray.isEmpty) = true := by
      rw [decide_eq_true (show k ≤ 0 by omega)]
      rfl
    refine wpAny_binaryOp_repeat_ref (T := "tuple") (U := "int") (by decide) ⟨_, ho, rfl⟩ (fun s' => typeIs_int s' k t) noFill_tuple_mul F.fills_int_mul F.slot_int_rmul repeat_tuple F.slot_int_index.lookup
      (call_meets F.slot_int_rmul (typeIs_int s k t) F.entry_int_rmul (F.args_int_rmul_2 _ _) (int_rmul_tuple k t l its.toArray n dd sl)
        ⟨ho, rfl, ⟨_, ho, rfl⟩, call_meets F.slot_tuple_mul ⟨_, ho, rfl⟩ F.entry_tuple_mul (F.args_tuple_mul_2 _ _) (tuple_mulW0 l its.toArray n dd sl k t c0 c1 c2) ⟨ho, ?_⟩⟩)
    refine ⟨.ref s.heap.objs.size, _, I.laid (t' := s.toks) (o := .tup []) (fun b ob q => Heap.get?_push_of_some _ q) (Nat.le_refl _) ?_, rfl, q0 (by omega) _ (I.hok.fresh (Nat.le_refl _))⟩
    exact ⟨Nat.zero_le _, [], .nil, IsTup.new _ _⟩
theorem op_repAK {X : Cx} {K : PySem.W.Frag} (e : X.K = K) : OpR X (binaryOp .Mult) (rRepA K) := by
  subst e
  exact op_repA
section
variable {K : PySem.W.Frag} {H : Hp} {Q : VK} {a : Addr} {v : V}
/-- (v,) * k -/
theorem x_repA1 {k : Int} (h : H a = some (.tup [v])) (h1 : -1000 ≤ k) (h2 : k ≤ 1000) (q : ∀ p H', Same H H' → H' p = some (.tup (List.replicate k.toNat v)) → Q (.ref p) H') : rRepA K (.ref a) (.int k) H Q := by
  refine ⟨a, k, [v], rfl, rfl, .of h, by simp, h1, h2, (by show 1 ≤ 1000; decide), fun e => ?_, fun e p hp => ?_, fun e p hp => ?_⟩
  · subst e
    exact q a H (Same.refl _) h
  · refine q p _ (same_new (Same.refl _) hp) ?_
    rw [upd_same, show k.toNat = 0 by omega]
    rfl
  · refine q p _ (same_new (Same.refl _) hp) ?_
    rw [upd_same, rep_one]
end
end Fv
set_option maxRecDepth 100000
set_option maxHeartbeats 1000000
namespace Fv
open PySem PySem.Spec PyProof.Rows L2
theorem cr_minLK {X : Cx} {K : PySem.W.Frag} (e : X.K = K) (hc : X.calm = true) : CallR X (.builtin "min") (rMin K) := by
  subst e
  exact cr_min hc
/-- rows of numbers, each a tuple -/
def RowV (H : Hp) (v : V) (r : List Nat) : Prop := ∃ t, v = .ref t ∧ H t = some (.tup (nats r))
def RowsV (H : Hp) : List V → List (List Nat) → Prop
  | [], [] => True
  | v :: vs, x :: xs => RowV H v x ∧ RowsV H vs xs
  | [], _ :: _ => False
  | _ :: _, [] => False
theorem RowsV.imp {H H' : Hp} (f : ∀ v x, RowV H v x → RowV H' v x) : ∀ {vs : List V} {xs : List (List Nat)}, RowsV H vs xs → RowsV H' vs xs
  | [], [], _ => True.intro
  | _ :: _, _ :: _, h => ⟨f _ _ h.1, RowsV.imp f h.2⟩
  | [], _ :: _, h => h.elim
  | _ :: _, [], h => h.elim
theorem RowsV.same {H H' : Hp} {vs : List V} {xs : List (List Nat)} (s : Same H H') (h : RowsV H vs xs) : RowsV H' vs xs := h.imp fun _ _ ⟨t, e, k⟩ => ⟨t, e, s _ _ k⟩
theorem RowsV.mut {H : Hp} {vs : List V} {xs : List (List Nat)} {q : Addr} {ys : List V} {o : HO} (hq : H q = some (.lst ys)) (h : RowsV H vs xs) : RowsV (upd H q o) vs xs := h.imp fun _ _ ⟨t, e, k⟩ => ⟨t, e, keepM (fun z => by
  rw [z, hq] at k
  cases k) k⟩
theorem RowsV.app {H : Hp} : ∀ {vs ws : List V} {xs ys : List (List Nat)}, RowsV H vs xs → RowsV H ws ys → RowsV H (vs ++ ws) (xs ++ ys)
  | [], _, [], _, _, h => h
  | _ :: _, _, _ :: _, _, h, k => ⟨h.1, RowsV.app h.2 k⟩
  | [], _, _ :: _, _, h, _ => h.elim
  | _ :: _, _, [], _, h, _ => h.elim
theorem RowsV.len {H : Hp} : ∀ {vs : List V} {xs : List (List Nat)}, RowsV H vs xs → vs.length = xs.length
  | [], [], _ => rfl
  | _ :: _, _ :: _, h => congrArg (· + 1) (RowsV.len h.2)
  | [], _ :: _, h => h.elim
  | _ :: _, [], h => h.elim
theorem RowsV.at {H : Hp} : ∀ {vs : List V} {xs : List (List Nat)} {i : Nat} {v : V}, RowsV H vs xs → vs[i]? = some v → ∃ x, xs[i]? = some x ∧ RowV H v x
  | [], [], _, _, _, h => by cases h
  | _ :: _, x :: _, 0, _, h, e => by
    have e' := Option.some.inj e
    subst e'
    exact ⟨x, rfl, h.1⟩
  | _ :: _, _ :: _, i + 1, _, h, e => RowsV.at (i := i) h.2 e
  | [], _ :: _, _, _, h, _ => h.elim
  | _ :: _, [], _, _, h, _ => h.elim
theorem RowsV.mem {H : Hp} {vs : List V} {xs : List (List Nat)} (h : RowsV H vs xs) {v : V} (hv : v ∈ vs) : ∃ x, x ∈ xs ∧ RowV H v x := by
  obtain ⟨i, hi, e⟩ := List.getElem_of_mem hv
  obtain ⟨x, e2, hx⟩ := h.at (i := i) (v := v) (by rw [List.getElem?_eq_getElem hi, e])
  exact ⟨x, List.mem_of_getElem? e2, hx⟩
end Fv
set_option maxRecDepth 100000
set_option maxHeartbeats 1000000
namespace Fv
open PySem PySem.Spec PySem.SeqAt PyProof.Rows L2
open AutoSeq1 (wpAny_loadPart')
/-! t != u, tuples whose items are equal by their own == -/
section
variable {prog : Program} {w : World} {A : Around} {R : Result → Shared → Prop}
theorem ne_tuples (a b : Addr) (as bs : Array Value) (k k2 : Nat) (da db : Option Addr) (sa sb : Array (Option Value)) (same : as.size = bs.size) (J : Nat → Shared → Prop)
    (step : ∀ m (l1 : m < as.size) (l2 : m < bs.size) z, J m z → wpAny (model prog w) A.in1 (eqBool as[m] bs[m]) (fun r z' => r = true ∧ J (m + 1) z') (fun x z' => R (.error x) z') z)
    (last : ∀ z, J as.size z → R (.ok (.ret (.bool false))) z) {z : Shared} (ea : z.heap.get? a = some { cls := .type "tuple", dict := da, data := .seq as k, slots := sa }) (eb : z.heap.get? b = some { cls := .type "tuple", dict := db, data := .seq bs k2, slots := sb }) (j0 : J 0 z) :
    wpAny (model prog w) A.in1 (Builtin.«tuple.__ne__» ⟨[.ref a, .ref b], []⟩) (GQ.FinOf prog w A R) (fun x z' => R (.error x) z') z := by
  have f2 := AutoSeq1.sub_tuple_tuple
  have zl : (as.toList.zip bs.toList).length = as.size := by simp [same]
  have j0' := j0
  obtain ⟨hp, g, d, tk, os⟩ := z
  wp_walk using wpAny_loadPart' ea, wpAny_loadPart' eb, wpAny_forIn_list _ (fun left st z' => st.1 = none ∧ ∃ m, left = (as.toList.zip bs.toList).drop m ∧ m ≤ as.size ∧ J m z') _
  case turn =>
    rintro ⟨u, v⟩ left st z' ⟨st1, m, hd, hm, hJ⟩
    have lt : m < (as.toList.zip bs.toList).length := Nat.lt_of_not_le fun hle => by
      rw [List.drop_of_length_le hle] at hd
      cases hd
    have m1 : m < as.size := zl ▸ lt
    have m2 : m < bs.size := same ▸ m1
    rw [List.drop_eq_getElem_cons lt] at hd
    obtain ⟨h1, h2⟩ := List.cons.inj hd
    have eu : u = as[m] := by simpa using congrArg Prod.fst h1
    have ev : v = bs[m] := by simpa using congrArg Prod.snd h1
    subst eu ev
    refine wpAny_bind (wpAny_mono (step m m1 m2 z' hJ) (fun r z2 hr => ?_) fun _ _ q => q)
    obtain ⟨r1, hJ2⟩ := hr
    subst r1
    wp_walk
    exact ⟨rfl, m + 1, h2, m1, hJ2⟩
  case fin =>
    rintro ⟨st1, st2⟩ z' ⟨e1, m, hd, hm, hJ⟩
    simp only at e1
    subst e1
    have ge : as.size ≤ m := Nat.le_of_not_lt fun hlt => by
      rw [List.drop_eq_getElem_cons (by rw [zl]; exact hlt)] at hd
      cases hd
    have em : m = as.size := Nat.le_antisymm hm ge
    subst em
    have done := last z' hJ
    wp_walk
    simpa [Builtin.Tuple.tupleCompareSizes, same] using done
  case h => exact ⟨rfl, 0, rfl, Nat.zero_le _, j0'⟩
end
section
variable {X : Cx} {n : Nat} {D : Eqv}
def rNeG (K : PySem.W.Frag) (D : Eqv) : R2 := fun x y H Q => (x = .non ∧ y = .non ∧ Q (.bl false) H) ∨ (DTup K D x y H ∧ ∀ H', Ext H H' → Q (.bl false) H')
theorem op_neG (hD : Mon D) (h : EqG X n D) (hr : Room (n + 1) X.A) : OpR X (compareOp .NotEq) (rNeG X.K D) := by
  intro pins s σ H x y v u Q I rx ry hq
  rcases hq with ⟨rfl, rfl, q⟩ | ⟨d, q⟩
  · exact op_ne pins s σ H _ _ v u Q I rx ry ⟨rfl, q⟩
  · obtain ⟨a, b, xs, ys, rfl, rfl, ha, hb, p⟩ := d
    cases rx
    cases ry
    show wpAny (model X.prog X.w) X.A (richCompare .NotEq (.ref a) (.ref b)) (EP X pins σ Q) X.xe s
    obtain ⟨its, r, e, z⟩ := I.tuple ha
    obtain ⟨its2, r2, e2, z2⟩ := I.tuple hb
    have same : its.toArray.size = its2.toArray.size := by
      rw [List.size_toArray, List.size_toArray, ← r.length, ← r2.length]
      exact p.1
    obtain ⟨⟨c1, d1, t1, s1⟩, o1, k1, m1, n1⟩ := id e
    obtain ⟨⟨c2, d2, t2, s2⟩, o2, k2, m2, n2⟩ := id e2
    simp only at k1 n1 k2 n2
    subst k1 n1 k2 n2
    refine wpAny_richCompare_same_room (op := .NotEq) ⟨_, o1, rfl⟩ ⟨_, o2, rfl⟩ F.slot_tuple_ne (GQ.call_here F.slot_tuple_ne ⟨_, o1, rfl⟩ F.entry_tuple_ne (F.args_tuple_ne_2 _ _) ?_) hr.units0
    refine ne_tuples (R := wants (fun v s' => v ≠ .notImplemented ∧ EP X pins σ Q v s') X.xe) a b its.toArray its2.toArray m1 m2 d1 d2 s1 s2 same (fun _ s' => LoopI X pins σ H s') (fun i h1 h2 s' l => turnG hD h ⟨hr, rfl⟩ p r r2 i h1 h2 s' l) (fun s' l => ⟨(fun x => nomatch x), ?_⟩) o1 o2 ⟨H, I, Ext.rfl'⟩
    obtain ⟨H', I', e'⟩ := l
    exact ⟨.bl false, H', I', rfl, q H' e'⟩
theorem op_neGK {K : PySem.W.Frag} (eK : X.K = K) (hD : Mon D) (h : EqG X n D) (hr : Room (n + 1) X.A) : OpR X (compareOp .NotEq) (rNeG K D) := by
  subst eK
  exact op_neG hD h hr
end
end Fv
set_option maxRecDepth 100000
set_option maxHeartbeats 1000000
namespace Fv
open PySem PySem.Spec L2
def top (i : Nat) : Stmt := PySem.Challenge.pw_foldervotes_k06_whole_twins_and_trees_of.main.body.getD i (.Pass ⟨0, 0, 0, 0⟩)
abbrev s_BadTree___init__ : Stmt := inClass (top 2) 0
abbrev s_NoBlock___init__ : Stmt := inClass (top 3) 0
abbrev s_NoPlace___init__ : Stmt := inClass (top 4) 0
abbrev s_Beneath___init__ : Stmt := inClass (top 5) 0
abbrev s_NoView___init__ : Stmt := inClass (top 6) 0
abbrev s_OtherBlocks___init__ : Stmt := inClass (top 7) 0
abbrev s_NoNumber___init__ : Stmt := inClass (top 8) 0
abbrev s_is_within : Stmt := top 10
abbrev s_Tree___init__ : Stmt := inClass (top 13) 0
abbrev s_Tree___eq__ : Stmt := inClass (top 13) 1
abbrev s__comes_to_head : Stmt := top 14
abbrev s_is_block : Stmt := top 15
abbrev s_is_place : Stmt := top 16
abbrev s_place_of : Stmt := top 17
abbrev s_parents : Stmt := top 18
abbrev s_under : Stmt := top 19
abbrev s_beneath : Stmt := top 20
abbrev s_moved : Stmt := top 21
abbrev s_is_view : Stmt := top 24
abbrev s_telling : Stmt := top 25
abbrev s__row_told : Stmt := top 26
abbrev s__ties_told : Stmt := top 27
abbrev s_unlike : Stmt := top 28
abbrev s_distance : Stmt := top 29
abbrev s_twins : Stmt := top 30
abbrev s__law_pool : Stmt := top 32
abbrev s__law_draw : Stmt := top 33
abbrev s__law_pick : Stmt := top 34
abbrev s__law_is : Stmt := top 35
abbrev s__law_mixed : Stmt := top 36
abbrev s__law_hung : Stmt := top 37
abbrev s__law_way : Stmt := top 38
abbrev s__law_tellings : Stmt := top 39
abbrev s__law_view : Stmt := top 40
abbrev s__law_unlike : Stmt := top 41
abbrev s__law_distance : Stmt := top 42
abbrev s__law_are_twins : Stmt := top 43
abbrev s_law : Stmt := top 44
structure Ad where
  a_VoteError : Addr
  a_BadTree : Addr
  a_NoBlock : Addr
  a_NoPlace : Addr
  a_Beneath : Addr
  a_NoView : Addr
  a_OtherBlocks : Addr
  a_NoNumber : Addr
  a_Tree : Addr
  t_MOST_BLOCKS : PySem.Tok
  t_MOST_STEPS : PySem.Tok
structure Bl (Z : Ad) (mg : Str → Option Value) : Prop where
  b_abs : mg "abs" = none
  b_all : mg "all" = none
  b_bool : mg "bool" = none
  b_dict : mg "dict" = none
  b_enumerate : mg "enumerate" = none
  b_int : mg "int" = none
  b_isinstance : mg "isinstance" = none
  b_len : mg "len" = none
  b_list : mg "list" = none
  b_range : mg "range" = none
  b_sorted : mg "sorted" = none
  b_super : mg "super" = none
  b_tuple : mg "tuple" = none
  k_VoteError : mg "VoteError" = some (.ref Z.a_VoteError)
  k_BadTree : mg "BadTree" = some (.ref Z.a_BadTree)
  k_NoBlock : mg "NoBlock" = some (.ref Z.a_NoBlock)
  k_NoPlace : mg "NoPlace" = some (.ref Z.a_NoPlace)
  k_Beneath : mg "Beneath" = some (.ref Z.a_Beneath)
  k_NoView : mg "NoView" = some (.ref Z.a_NoView)
  k_OtherBlocks : mg "OtherBlocks" = some (.ref Z.a_OtherBlocks)
  k_NoNumber : mg "NoNumber" = some (.ref Z.a_NoNumber)
  k_Tree : mg "Tree" = some (.ref Z.a_Tree)
  c_MOST_BLOCKS : mg "MOST_BLOCKS" = some (.int 40 Z.t_MOST_BLOCKS)
  c_MOST_STEPS : mg "MOST_STEPS" = some (.int 4 Z.t_MOST_STEPS)
end Fv
set_option maxRecDepth 100000
set_option maxHeartbeats 1000000
namespace Fv
open PySem PySem.Spec L2
local macro_rules | `(tactic| walk_at "ne") => `(tactic| first
  | assumption
  | (apply Ne.symm; assumption)
  | exact ne_of_none (by assumption) (by assumption)
  | (apply Ne.symm; exact ne_of_none (by assumption) (by assumption))
  | exact ne_none' (by assumption) (by walk_at "hu")
  | (apply Ne.symm; exact ne_none' (by assumption) (by walk_at "hu")))
local macro_rules | `(tactic| walk_at "hu") => `(tactic| first
  | with_reducible assumption
  | with_reducible exact upd_same
  | ((with_reducible show upd _ _ _ _ = some _); first | with_reducible exact upd_same | (with_reducible exact keepN (by walk_at "hu") (by assumption)) | (with_reducible exact keepM (by walk_at "ne") (by walk_at "hu"))))
local macro_rules | `(tactic| walk_at "hl") => `(tactic| first
  | with_reducible assumption
  | with_reducible exact SqL.of (by assumption)
  | ((with_reducible show SqL _ (upd _ _ _) _ _); first
    | with_reducible exact SqL.of upd_same
    | with_reducible exact keepLN (by walk_at "hl") (by assumption)
    | with_reducible exact keepLM (by walk_at "ne") (by walk_at "hl"))
  | with_reducible exact Same.seq (by assumption) (by walk_at "hl")
  | with_reducible exact But.seq (by assumption) (by walk_at "ne") (by walk_at "hl"))
local macro_rules | `(tactic| walk_at "ht") => `(tactic| first
  | with_reducible assumption
  | with_reducible exact SqT.of (by assumption)
  | ((with_reducible show SqT _ (upd _ _ _) _ _); first
    | with_reducible exact SqT.of upd_same
    | with_reducible exact keepTN (by walk_at "ht") (by assumption)
    | with_reducible exact keepTM (by walk_at "ne") (by walk_at "ht"))
  | with_reducible exact Same.seqT (by assumption) (by walk_at "ht")
  | with_reducible exact But.seqT (by assumption) (by walk_at "ne") (by walk_at "ht"))
local macro_rules | `(tactic| walk_at "sm") => `(tactic| first
  | with_reducible assumption
  | with_reducible exact Same.refl _
  | ((with_reducible show Same _ (upd _ _ _)); first
    | with_reducible exact same_new (by walk_at "sm") (by assumption)
    | with_reducible exact same_mut (by walk_at "sm") (by assumption))
  | ((with_reducible refine same_trans (by assumption) ?_); walk_at "sm"))
local macro_rules | `(tactic| walk_at "bt") => `(tactic| first
  | with_reducible assumption
  | with_reducible exact But.refl _ _
  | with_reducible exact But.of (by assumption)
  | ((with_reducible show But _ _ (upd _ _ _)); first
    | ((with_reducible refine But.mut ?_); walk_at "bt")
    | with_reducible exact But.new (by walk_at "bt") (by assumption)
    | with_reducible exact But.mutF (by walk_at "bt") (by assumption))
  | ((with_reducible refine but_trans (by assumption) ?_); walk_at "bt")
  | ((with_reducible refine but_trans (But.of (by assumption)) ?_); walk_at "bt"))
local macro_rules | `(tactic| walk_at "kn") => `(tactic| first
  | with_reducible assumption
  | exact True.intro
  | with_reducible exact Kn.same (by assumption) (by walk_at "kn")
  | with_reducible exact Kn.same (same_new (Same.refl _) (by assumption)) (by walk_at "kn"))
local macro_rules | `(tactic| walk_at "h1") => `(tactic| first
  | with_reducible refine x_seq ?_
  | with_reducible refine x_next ?_
  | with_reducible refine x_drop ?_
  | with_reducible refine x_ret ?_
  | with_reducible refine x_retN ?_
  | with_reducible refine x_ifs ?_
  | with_reducible refine x_asg ?_
  | with_reducible refine x_gname ?_
  | with_reducible refine x_gsub ?_
  | ((with_reducible show tVar _ _ _ _); with_reducible refine x_var (by with_unfolding_all rfl) ?_)
  | with_reducible refine x_c ?_
  | with_reducible refine x_op ?_
  | with_reducible refine x_un ?_
  | with_reducible refine x_i0 ?_
  | ((with_reducible show rI _ _ (V.int _) (V.int _) _ _); with_reducible refine x_i (by with_unfolding_all (first | assumption | decide | (show (0 : Int) < _; first | assumption | decide | omega) | exact ⟨by first | assumption | decide | omega, by first | assumption | decide | omega⟩ | exact Or.inl ⟨by first | decide | omega, by first | decide | omega⟩ | exact Or.inr ⟨by first | decide | omega, by first | decide | omega⟩)) ?_)
  | with_reducible refine x_u ?_
  | with_reducible refine x_isN0 ?_
  | with_reducible refine x_isN1 ?_
  | with_reducible refine x_isN2 ?_
  | with_reducible refine x_isN3 ?_
  | with_reducible refine x_isN4 ?_
  | with_reducible refine x_notN0 ?_
  | with_reducible refine x_notN1 ?_
  | with_reducible refine x_notN2 ?_
  | with_reducible refine x_notN3 ?_
  | with_reducible refine x_notN4 ?_
  | with_reducible refine x_eqB ?_
  | with_reducible refine x_neB ?_
  | with_reducible refine x_eqS ?_
  | with_reducible refine x_eqI ?_
  | with_reducible refine x_neI ?_
  | ((with_reducible show rEq _ _ _ _); with_reducible refine x_eq (by with_unfolding_all rfl) ?_)
  | ((with_reducible show rNe _ _ _ _); with_reducible refine x_ne (by with_unfolding_all rfl) ?_)
  | ((with_reducible show rIxL _ (V.ref _) (V.int _) _ _); with_reducible refine x_ixL (by walk_at "hl") (by first | assumption | with_unfolding_all exact atI_nat (j := 0) rfl | with_unfolding_all exact atI_nat (j := 1) rfl | with_unfolding_all rfl) ?_)
  | ((with_reducible show rIxT _ (V.ref _) (V.int _) _ _); with_reducible refine x_ixT (by walk_at "ht") (by first | assumption | with_unfolding_all exact atI_nat (j := 0) rfl | with_unfolding_all exact atI_nat (j := 1) rfl | with_unfolding_all rfl) ?_)
  | ((with_reducible show rIx _ (V.ref _) (V.int _) _ _); first
    | with_reducible refine x_ixSL (by walk_at "hl") (by first | assumption | with_unfolding_all exact atI_nat (j := 0) rfl | with_unfolding_all exact atI_nat (j := 1) rfl | with_unfolding_all rfl) ?_
    | with_reducible refine x_ixST (by walk_at "ht") (by first | assumption | with_unfolding_all exact atI_nat (j := 0) rfl | with_unfolding_all exact atI_nat (j := 1) rfl | with_unfolding_all rfl) ?_)
  | ((with_reducible show rSetL (V.ref _) (V.int _) _ _ _); with_reducible refine x_setL (by walk_at "hu") (by first | assumption | with_unfolding_all rfl) ?_)
  | with_reducible refine x_test ?_
  | with_reducible refine x_b ?_
  | with_reducible refine x_isb ?_
  | ((with_reducible show if decide _ = true then _ else _); with_reducible refine x_isdT (by first | with_unfolding_all rfl | with_unfolding_all decide) ?_)
  | ((with_reducible show if decide _ = true then _ else _); with_reducible refine x_isdF (by with_unfolding_all decide) ?_)
  | with_reducible refine x_isi ?_
  | with_reducible refine x_and ?_
  | with_reducible refine x_or ?_
  | with_reducible refine x_not ?_
  | with_reducible refine x_andV ?_
  | with_reducible refine x_orV ?_
  | with_reducible refine x_notV ?_
  | with_reducible refine x_ifx ?_
  | with_reducible refine x_nil ?_
  | with_reducible refine x_cons ?_
  | with_reducible refine x_cb ?_
  | with_reducible refine x_call ?_
  | with_reducible refine x_lst ?_
  | with_reducible refine x_tup ?_
  | with_reducible refine x_sl ?_
  | with_reducible refine x_nopart ?_
  | with_reducible refine x_part ?_
  | ((with_reducible show rSlL _ (V.ref _) _ _ _ _); with_reducible refine x_slL (by walk_at "hl") ?_)
  | with_reducible refine x_listRg1 ?_
  | with_reducible refine x_listRg2 ?_
  | with_reducible refine x_tupRg1 ?_
  | with_reducible refine x_ij ?_
  | ((with_reducible show tyV _ "list" (V.ref _) _ ∧ _); with_reducible refine x_tyL (by walk_at "hl") ?_)
  | with_reducible refine x_bm ?_
  | with_reducible refine x_bm0 ?_
  | with_reducible refine x_fldQ ?_
  | with_reducible refine x_par ?_
  | with_reducible refine x_par2 ?_
  | with_reducible refine x_chain ?_
  | ((with_reducible show tAug _ _ _ _ _ _); with_reducible refine x_aug (by with_unfolding_all rfl) ?_)
  | with_reducible refine x_ipI ?_
  | with_reducible refine x_for ?_
  | with_reducible refine x_while ?_
  | with_reducible refine x_ent ?_
  | with_reducible refine x_mko ?_
  | with_reducible refine x_sfld ?_
  | with_reducible refine x_ost ?_
  | ((with_reducible show gTup _ _ _ (V.ref _) _ _ _); with_reducible refine x_gtup (by walk_at "ht") (by with_unfolding_all rfl) ?_)
  | with_reducible refine x_gcons ?_
  | with_reducible refine x_gnil ?_
  | with_reducible refine x_lc ?_
  | with_reducible refine x_lc2 ?_
  | with_reducible refine x_ilist ?_
  | with_reducible refine x_itup ?_
  | with_reducible refine x_rng1 ?_
  | with_reducible refine x_rng2v ?_
  | with_reducible refine x_irngV ?_
  | with_reducible refine x_star ?_
  | with_reducible refine x_rng2 ?_
  | with_reducible refine x_yes ?_
  | ((with_reducible show rLen _ [V.ref _] _ _); with_reducible refine x_lenL (by walk_at "hl") ?_)
  | ((with_reducible show rLen _ [V.ref _] _ _); with_reducible refine x_lenT (by walk_at "ht") ?_)
  | ((with_reducible show rListOf _ [V.ref _] _ _); with_reducible refine x_listL (by walk_at "hl") ?_)
  | ((with_reducible show rListOf _ [V.ref _] _ _); with_reducible refine x_listT (by walk_at "ht") ?_)
  | ((with_reducible show rTupOf _ [V.ref _] _ _); with_reducible refine x_tupL (by walk_at "hl") ?_)
  | ((with_reducible show rTupOf _ [V.ref _] _ _); with_reducible refine x_tupT (by walk_at "ht") ?_)
  | ((with_reducible show List.length _ ≤ sizeLine ∧ _); with_reducible refine And.intro (szLe (by with_unfolding_all (simp only [List.length_cons, List.length_nil]; decide))) ?_)
  | with_reducible refine x_int1 ?_
  | with_reducible refine x_abs ?_
  | with_reducible refine isi_non_int ?_
  | with_reducible refine isi_bl_int ?_
  | with_reducible refine isi_int_int ?_
  | with_reducible refine isi_str_int ?_
  | ((with_reducible show rIsi _ [V.ref _, V.ty "int"] _ _); first | with_reducible refine isi_lst_int (by walk_at "hu") ?_ | with_reducible refine isi_tup_int (by walk_at "hu") ?_ | with_reducible refine isi_dK_int (by walk_at "hu") ?_)
  | with_reducible refine isi_non_bool ?_
  | with_reducible refine isi_bl_bool ?_
  | with_reducible refine isi_int_bool ?_
  | with_reducible refine isi_str_bool ?_
  | ((with_reducible show rIsi _ [V.ref _, V.ty "bool"] _ _); first | with_reducible refine isi_lst_bool (by walk_at "hu") ?_ | with_reducible refine isi_tup_bool (by walk_at "hu") ?_ | with_reducible refine isi_dK_bool (by walk_at "hu") ?_)
  | with_reducible refine isi_non_tuple ?_
  | with_reducible refine isi_bl_tuple ?_
  | with_reducible refine isi_int_tuple ?_
  | with_reducible refine isi_str_tuple ?_
  | ((with_reducible show rIsi _ [V.ref _, V.ty "tuple"] _ _); first | with_reducible refine isi_lst_tuple (by walk_at "hu") ?_ | with_reducible refine isi_tup_tuple (by walk_at "hu") ?_ | with_reducible refine isi_dK_tuple (by walk_at "hu") ?_)
  | with_reducible refine isi_non_list ?_
  | with_reducible refine isi_bl_list ?_
  | with_reducible refine isi_int_list ?_
  | with_reducible refine isi_str_list ?_
  | ((with_reducible show rIsi _ [V.ref _, V.ty "list"] _ _); first | with_reducible refine isi_lst_list (by walk_at "hu") ?_ | with_reducible refine isi_tup_list (by walk_at "hu") ?_ | with_reducible refine isi_dK_list (by walk_at "hu") ?_)
  | with_reducible refine isi_non_dict ?_
  | with_reducible refine isi_bl_dict ?_
  | with_reducible refine isi_int_dict ?_
  | with_reducible refine isi_str_dict ?_
  | ((with_reducible show rIsi _ [V.ref _, V.ty "dict"] _ _); first | with_reducible refine isi_lst_dict (by walk_at "hu") ?_ | with_reducible refine isi_tup_dict (by walk_at "hu") ?_ | with_reducible refine isi_dK_dict (by walk_at "hu") ?_)
  | with_reducible refine isi_non_str ?_
  | with_reducible refine isi_bl_str ?_
  | with_reducible refine isi_int_str ?_
  | with_reducible refine isi_str_str ?_
  | ((with_reducible show rIsi _ [V.ref _, V.ty "str"] _ _); first | with_reducible refine isi_lst_str (by walk_at "hu") ?_ | with_reducible refine isi_tup_str (by walk_at "hu") ?_ | with_reducible refine isi_dK_str (by walk_at "hu") ?_)
  | ((with_reducible show rIsi _ [_, V.ty "int"] _ _); with_reducible refine x_isInt (by walk_at "kn") ?_)
  | ((with_reducible show rIsi _ [_, V.ty "bool"] _ _); with_reducible refine x_isBl (by walk_at "kn") ?_)
  | with_reducible refine x_nF ?_
  | with_reducible refine x_nT ?_
  | with_reducible refine iteT ?_
  | with_reducible refine iteF ?_)
local macro_rules | `(tactic| walk_at "hs") => `(tactic| repeat (walk_at "h1"; try dsimp only [Bool.not_true, Bool.not_false]))
local macro_rules | `(tactic| walk_at "h0") => `(tactic| ((try dsimp only [cxOf, L2.start, List.map_cons, List.map_nil, List.length_cons, List.length_nil, List.replicate, List.cons_append, List.nil_append, Nat.reduceAdd, Nat.reduceSub]); walk_at "hs"))

theorem sc__law_draw : FnScope ["_law_pool_here", "_law_many", "_law_digit", "_law_cell", "_law_number"] ["_law_pool_here", "_law_many"] (defScope s__law_draw) := ⟨rfl, rfl, rfl, by decide +kernel, rfl, by decide +kernel, by decide +kernel⟩
/-- the pool at p: its two lists, what is left of a great number, how often it was turned; F: what others own, and it does not -/
def PoolAt (H : Hp) (p : Addr) (F : Addr → Prop) : Prop := (∃ (g s : Addr) (gs ss : List Int) (c n : Int), H p = some (.lst [.ref g, .ref s, .int c, .int n]) ∧ H g = some (.lst (gs.map V.int)) ∧ H s = some (.lst (ss.map V.int)) ∧ g ≠ p ∧ s ≠ p ∧ ¬ F g ∧ ¬ F s ∧ ¬ F p) ∧ ∀ a, F a → ∃ o, H a = some o
def spDraw : Sp := fun vs H Q _ => ∃ (p : Addr) (m : Int) (F : Addr → Prop), vs = [.ref p, .int m] ∧ PoolAt H p F ∧ 0 < m ∧ m < 1073741824 ∧ ∀ (d : Int) H', 0 ≤ d → d < m → But p H H' → PoolAt H' p F → Q (.int d) H'
theorem prot {H H' : Hp} {p : Addr} {F : Addr → Prop} (b : But p H H') (h : ∀ a, F a → ∃ o, H a = some o) (n : ¬ F p) : ∀ a, F a → ∃ o, H' a = some o := fun a ha => by
  obtain ⟨o, e⟩ := h a ha
  exact ⟨o, b a o (fun z => n (z ▸ ha)) e⟩
section
variable {P : Program} {w : World} {K : PySem.W.Frag} {mg : Str → Option Value} {base : Heap} {Z : Ad}
theorem ok_draw {f : Addr} {fd : FuncData} (F : Fun K "_law_draw" "_law_draw" s__law_draw f fd) (B : Bl Z mg) : FnOk P w K mg base CX0 1 f fd ["_law_pool_here", "_law_many"] spDraw := by
  refine F.ok sc__law_draw (fun vs H Q E h => ?_) (fun cdv A outer s H vs Q E hr h => ?_)
  · obtain ⟨p, m, F, rfl, _⟩ := h
    rfl
  · obtain ⟨p, m, Fo, rfl, ⟨⟨g, z, gs, ss, c, n, hp, hg, hz, ng, nz, fg, fz, fp⟩, hF⟩, m0, m1, q⟩ := h
    refine ⟨_, (C8.pss_cut (ps_if (PW.pt (pw_and (pt_cmpR op_le (pe_ix (ix_listK (K := K) rfl) (pv 0) pe_int (fun _ _ => rfl)) pe_int (nomark _)) (pw_and1 (pt_cmpR op_gt (pe_callB (call_lenK (K := K) rfl) (by rfl) B.b_len PySem.boot_len (pa_cons (pe_ix (ix_listK (K := K) rfl) (pv 0) pe_int (fun _ _ => rfl)) pa_nil)) pe_int (nomark _))))) (pss_cons (ps_asg (pe_ix (ix_listK (K := K) rfl) (pe_ix (ix_listK (K := K) rfl) (pv 0) pe_int (fun _ _ => rfl)) pe_int (fun _ _ => rfl)) (pg_sub (pv 0) pe_int set_list))
 (pss_one (ps_asg (pe_slice (sl_listK (K := K) rfl) (pe_ix (ix_listK (K := K) rfl) (pv 0) pe_int (fun _ _ => rfl)) (po_some pe_int) po_none) (pg_sub (pv 0) pe_int set_list)))) pss_nil)
 (pss_cons (ps_if (pt_cmpR op_gt (pe_ix (ix_listK (K := K) rfl) (pv 0) pe_int (fun _ _ => rfl)) pe_int (nomark _)) (pss_cons (ps_set (i := 2) sc__law_draw.nd rfl (Or.inl rfl) (pe_op op_mod (pe_callTy call_int (by rfl) B.b_int (by decide +kernel) (pa_cons (pe_ix (ix_listK (K := K) rfl) (pv 0) pe_int (fun _ _ => rfl)) pa_nil)) (pv 1)))
 (pss_cons (ps_asg (pe_op op_fdiv (pe_ix (ix_listK (K := K) rfl) (pv 0) pe_int (fun _ _ => rfl)) (pv 1)) (pg_sub (pv 0) pe_int set_list))
 (pss_one (ps_ret (pv 2))))) pss_nil)
 (pss_cons (ps_asg (pe_op op_add (pe_ix (ix_listK (K := K) rfl) (pv 0) pe_int (fun _ _ => rfl)) pe_int) (pg_sub (pv 0) pe_int set_list))
 (pss_cons (ps_set (i := 3) sc__law_draw.nd rfl (Or.inl rfl) pe_int)
 (C8.pss_cut (ps_if (pt_cmpR op_gt (pe_callB (call_lenK (K := K) rfl) (by rfl) B.b_len PySem.boot_len (pa_cons (pe_ix (ix_listK (K := K) rfl) (pv 0) pe_int (fun _ _ => rfl)) pa_nil)) pe_int (nomark _)) (pss_one (ps_set (i := 3) sc__law_draw.nd rfl (Or.inl rfl) (pe_ix (ix_listK (K := K) rfl) (pe_ix (ix_listK (K := K) rfl) (pv 0) pe_int (fun _ _ => rfl)) (pe_op op_mod (pe_callTy call_int (by rfl) B.b_int (by decide +kernel) (pa_cons (pe_ix (ix_listK (K := K) rfl) (pv 0) pe_int (fun _ _ => rfl)) pa_nil)) (pe_callB (call_lenK (K := K) rfl) (by rfl) B.b_len PySem.boot_len (pa_cons (pe_ix (ix_listK (K := K) rfl) (pv 0) pe_int (fun _ _ => rfl)) pa_nil))) (fun _ _ => rfl)))) pss_nil)
 (pss_cons (ps_set (i := 4) sc__law_draw.nd rfl (Or.inl rfl) (pe_op op_mod (pe_callTy call_int (by rfl) B.b_int (by decide +kernel) (pa_cons (pe_op op_mul (pe_op op_add (pe_op op_add (pv 3) (pe_op op_mul pe_int (pe_ix (ix_listK (K := K) rfl) (pv 0) pe_int (fun _ _ => rfl)))) pe_int) pe_int) pa_nil)) pe_int))
 (pss_cons (ps_set (i := 4) sc__law_draw.nd rfl (Or.inl rfl) (pe_op op_mod (pe_callTy call_int (by rfl) B.b_int (by decide +kernel) (pa_cons (pe_op op_mul (pv 4) (pe_op op_add (pe_op op_fdiv (pv 4) pe_int) pe_int)) pa_nil)) pe_int))
 (pss_cons (ps_set (i := 4) sc__law_draw.nd rfl (Or.inl rfl) (pe_op op_mod (pe_callTy call_int (by rfl) B.b_int (by decide +kernel) (pa_cons (pe_op op_mul (pv 4) (pe_op op_add (pe_op op_fdiv (pv 4) pe_int) pe_int)) pa_nil)) pe_int))
 (pss_one (ps_ret (pe_op op_mod (pe_callTy call_int (by rfl) B.b_int (by decide +kernel) (pa_cons (pe_op op_fdiv (pv 4) pe_int) pa_nil)) (pv 1)))))))))))), ?_⟩
    walk_at "h0"
    refine ⟨fun σ' H' => σ' = [some (.ref p), some (.int m), none, none, none] ∧ But p H H' ∧ PoolAt H' p Fo, ?_, ?_⟩
    · walk_at "hs"
      refine x_isd (fun c1 => ?_) (fun c1 => ?_)
      · walk_at "hs"
        refine x_isd (fun c2 => ?_) (fun c2 => ?_)
        · cases gs with
          | nil => exact absurd c2 (by decide)
          | cons g0 gs =>
            walk_at "hs"
            intro a ha
            walk_at "hs"
            refine ⟨rfl, by walk_at "bt", ⟨a, z, gs, ss, g0, n, upd_same, ?_, by walk_at "hu", by walk_at "ne", nz, fun fa => ?_, fz, fp⟩, prot (by walk_at "bt") hF fp⟩
            · refine keepM (by walk_at "ne") ?_
              rw [upd_same, cut1]
              rfl
            · obtain ⟨o, e⟩ := hF a fa
              rw [upd_ne (by walk_at "ne"), e] at ha
              cases ha
        · walk_at "hs"
          exact ⟨rfl, But.refl _ _, ⟨g, z, gs, ss, c, n, hp, hg, hz, ng, nz, fg, fz, fp⟩, hF⟩
      · walk_at "hs"
        exact ⟨rfl, But.refl _ _, ⟨g, z, gs, ss, c, n, hp, hg, hz, ng, nz, fg, fz, fp⟩, hF⟩
    · rintro σ' H1 ⟨rfl, b1, ⟨g, z, gs, ss, c, n, hp, hg, hz, ng, nz, fg, fz, fp⟩, hF⟩
      walk_at "hs"
      refine x_isd (fun c1 => ?_) (fun c1 => ?_)
      · walk_at "hs"
        exact q _ _ (Int.emod_nonneg _ (by omega)) (Int.emod_lt_of_pos _ m0) (by walk_at "bt") ⟨⟨g, z, gs, ss, c / m, n, upd_same, by walk_at "hu", by walk_at "hu", ng, nz, fg, fz, fp⟩, prot (But.mut (But.refl _ _)) hF fp⟩
      · walk_at "hs"
        refine ⟨fun σ' H' => ∃ k : Int, σ' = [some (.ref p), some (.int m), none, some (.int k), none] ∧ H' = upd H1 p (.lst [.ref g, .ref z, .int c, .int (n + 1)]), ?_, ?_⟩
        · walk_at "hs"
          refine x_isd (fun c2 => ?_) (fun c2 => ?_)
          · walk_at "hs"
            obtain ⟨v, hv, hm⟩ := at_mod (xs := ss.map V.int) (z := n + 1) (by omega)
            obtain ⟨k, _, rfl⟩ := List.mem_map.mp hm
            walk_at "hs"
            exact ⟨_, rfl, rfl⟩
          · walk_at "hs"
            exact ⟨_, rfl, rfl⟩
        · rintro σ' H2 ⟨k, rfl, rfl⟩
          walk_at "hs"
          exact q _ _ (Int.emod_nonneg _ (by omega)) (Int.emod_lt_of_pos _ m0) (by walk_at "bt") ⟨⟨g, z, gs, ss, c, n + 1, upd_same, by walk_at "hu", by walk_at "hu", ng, nz, fg, fz, fp⟩, prot (But.mut (But.refl _ _)) hF fp⟩
end
set_option maxRecDepth 100000
set_option maxHeartbeats 1000000
open PySem PySem.Spec L2


theorem sc__law_pool : FnScope ["_law_script", "_law_great", "_law_small", "_law_cell"] ["_law_script"] (defScope s__law_pool) := ⟨rfl, rfl, rfl, by decide +kernel, rfl, by decide +kernel, by decide +kernel⟩
theorem sc__law_pick : FnScope ["_law_pool_here", "_law_things"] ["_law_pool_here", "_law_things"] (defScope s__law_pick) := ⟨rfl, rfl, rfl, by decide +kernel, rfl, by decide +kernel, by decide +kernel⟩
section
variable {P : Program} {w : World} {K : PySem.W.Frag} {mg : Str → Option Value} {base : Heap} {Z : Ad}

theorem PoolAt.same {H H' : Hp} {p : Addr} {F : Addr → Prop} (s : Same H H') (h : PoolAt H p F) : PoolAt H' p F := by
  obtain ⟨⟨g, z, gs, ss, c, n, hp, hg, hz, r⟩, hF⟩ := h
  exact ⟨⟨g, z, gs, ss, c, n, s _ _ hp, s _ _ hg, s _ _ hz, r⟩, fun a ha => by
    obtain ⟨o, e⟩ := hF a ha
    exact ⟨o, s _ _ e⟩⟩
theorem PoolAt.ne {H : Hp} {p q : Addr} {F : Addr → Prop} (h : PoolAt H p F) (hq : H q = none) : q ≠ p := by
  obtain ⟨⟨g, z, gs, ss, c, n, hp, _⟩, _⟩ := h
  exact ne_none' hq hp
theorem PoolAt.neF {H : Hp} {p q : Addr} {F : Addr → Prop} (h : PoolAt H p F) (hq : F q) : q ≠ p := by
  obtain ⟨⟨g, z, gs, ss, c, n, hp, hg, hz, ng, nz, fg, fz, fp⟩, _⟩ := h
  exact fun e => fp (e ▸ hq)
theorem PoolAt.newH {H : Hp} {p q : Addr} {o : HO} {F : Addr → Prop} (h : PoolAt H p F) (hq : H q = none) : PoolAt (upd H q o) p F := h.same (same_new (Same.refl H) hq)
/-- a new object, owned by another -/
theorem PoolAt.own {H : Hp} {p q : Addr} {o : HO} {F : Addr → Prop} (h : PoolAt H p F) (hq : H q = none) : PoolAt (upd H q o) p (fun a => a = q ∨ F a) := by
  obtain ⟨⟨g, z, gs, ss, c, n, hp, hg, hz, ng, nz, fg, fz, fp⟩, hF⟩ := h
  refine ⟨⟨g, z, gs, ss, c, n, keepN hp hq, keepN hg hq, keepN hz hq, ng, nz, fun e => ?_, fun e => ?_, fun e => ?_⟩, fun a ha => ?_⟩
  · exact e.elim (ne_of_none hg hq) fg
  · exact e.elim (ne_of_none hz hq) fz
  · exact e.elim (ne_of_none hp hq) fp
  · rcases ha with rfl | ha
    · exact ⟨o, upd_same⟩
    · obtain ⟨u, e⟩ := hF a ha
      exact ⟨u, keepN e hq⟩
theorem PoolAt.mut {H : Hp} {p q : Addr} {o : HO} {F : Addr → Prop} (h : PoolAt H p F) (hq : F q) : PoolAt (upd H q o) p F := by
  obtain ⟨⟨g, z, gs, ss, c, n, hp, hg, hz, ng, nz, fg, fz, fp⟩, hF⟩ := h
  refine ⟨⟨g, z, gs, ss, c, n, keepM (fun e => fp (e ▸ hq)) hp, keepM (fun e => fg (e ▸ hq)) hg, keepM (fun e => fz (e ▸ hq)) hz, ng, nz, fg, fz, fp⟩, fun a ha => ?_⟩
  by_cases e : a = q
  · exact ⟨o, by rw [e, upd_same]⟩
  · obtain ⟨u, hu⟩ := hF a ha
    exact ⟨u, keepM e hu⟩
theorem PoolAt.weak {H : Hp} {p : Addr} {F G : Addr → Prop} (h : PoolAt H p F) (w : ∀ a, G a → F a) : PoolAt H p G := by
  obtain ⟨⟨g, z, gs, ss, c, n, hp, hg, hz, ng, nz, fg, fz, fp⟩, hF⟩ := h
  exact ⟨⟨g, z, gs, ss, c, n, hp, hg, hz, ng, nz, fun e => fg (w _ e), fun e => fz (w _ e), fun e => fp (w _ e)⟩, fun a ha => hF a (w a ha)⟩
def spPool (K : PySem.W.Frag) : Sp := fun vs H Q _ => ∃ (a : Addr) (ns : List Int), vs = [.ref a] ∧ SqL K H a (ns.map V.int) ∧ ns.length ≤ 63 ∧ ∀ p H', Same H H' → H p = none → PoolAt H' p (fun _ => False) → Q (.ref p) H'
theorem ok_pool {f : Addr} {fd : FuncData} (F : Fun K "_law_pool" "_law_pool" s__law_pool f fd) (B : Bl Z mg) : FnOk P w K mg base CX0 1 f fd ["_law_script"] (spPool K) := by
  refine F.ok sc__law_pool (fun vs H Q E h => ?_) (fun cdv A outer s H vs Q E hr h => ?_)
  · obtain ⟨a, ns, rfl, _⟩ := h
    rfl
  · obtain ⟨a, ns, rfl, hS, hl, q⟩ := h
    refine ⟨_, (pss_cons (ps_setLc (i := 1) (own := [("_law_cell", 3)]) rfl sc__law_pool.nd rfl rfl (sw_true rfl rfl rfl (by decide +kernel)) (pi_list (pe_slice (sl_listK (K := K) rfl) (pv 0) po_none (po_some pe_int))) (blkOk_by (N := ["_law_script", "_law_great", "_law_small", "_law_cell"]) (sc := defScope s__law_pool) (by decide +kernel)) (fun _ _ _ _ _ => (pg_name (i := 3) sc__law_pool.nd rfl (Or.inl rfl))) (fun _ _ _ _ _ => (pts_one (pt_cmpR op_ge (pe_callB call_ab (by rfl) B.b_abs (by decide +kernel) (pa_cons (pv 3) pa_nil)) (pe_op op_pow pe_int pe_int) (nomark _)))) (fun _ _ _ _ _ => (pe_callB call_ab (by rfl) B.b_abs (by decide +kernel) (pa_cons (pv 3) pa_nil))))
 (pss_cons (ps_setLc (i := 2) (own := [("_law_cell", 3)]) rfl sc__law_pool.nd rfl rfl (sw_true rfl rfl rfl (by decide +kernel)) (pi_list (pe_slice (sl_listK (K := K) rfl) (pv 0) po_none (po_some pe_int))) (blkOk_by (N := ["_law_script", "_law_great", "_law_small", "_law_cell"]) (sc := defScope s__law_pool) (by decide +kernel)) (fun _ _ _ _ _ => (pg_name (i := 3) sc__law_pool.nd rfl (Or.inl rfl))) (fun _ _ _ _ _ => (pts_one (pt_cmpR op_lt (pe_callB call_ab (by rfl) B.b_abs (by decide +kernel) (pa_cons (pv 3) pa_nil)) (pe_op op_pow pe_int pe_int) (nomark _)))) (fun _ _ _ _ _ => (pe_op op_mod (pe_callTy call_int (by rfl) B.b_int (by decide +kernel) (pa_cons (pv 3) pa_nil)) pe_int)))
 (pss_one (ps_ret (pe_lst (pa_cons (pv 1) (pa_cons (pv 2) (pa_cons pe_int (pa_cons pe_int pa_nil))))))))), ?_⟩
    have fin : ∀ (p1 p2 : Addr) (g z : List Int) H1, Same H H1 → H p1 = none → H p2 = none → H1 p1 = some (.lst (g.map V.int)) → H1 p2 = some (.lst (z.map V.int)) → ∀ p, H1 p = none → Q (.ref p) (upd H1 p (.lst [.ref p1, .ref p2, .int 0, .int 0])) := fun p1 p2 g z H1 s1 n1 n2 e1 e2 p hp => by
      refine q p _ (by walk_at "sm") (s1.free hp) ⟨⟨p1, p2, g, z, 0, 0, upd_same, by walk_at "hu", by walk_at "hu", by walk_at "ne", by walk_at "ne", fun e => e, fun e => e, fun e => e⟩, fun a e => e.elim⟩
    walk_at "h0"
    intro c hc
    refine ⟨c, rfl, ⟨_, SqL.of upd_same⟩, fun D hD => ?_⟩
    have hcD : D ≠ c := by walk_at "ne"
    have nD : H D = none := Same.free (H' := upd H c _) (same_new (Same.refl _) hc) hD
    have hsz : (cutV (ns.map V.int) none (some 63)).length ≤ 63 := Nat.le_trans (cutV_length _ _ _) (by rw [List.length_map]; exact hl)
    have hints : ∀ x ∈ cutV (ns.map V.int) none (some 63), ∃ n : Int, x = .int n := fun x hx => by
      obtain ⟨n, _, rfl⟩ := List.mem_map.mp (List.mem_of_mem_drop (List.mem_of_mem_take hx))
      exact ⟨n, rfl⟩
    refine lc_list (K := K) (a := c) (xs := cutV (ns.map V.int) none (some 63)) (fun i H' => ∃ g : List Int, g.length ≤ i ∧ Same H H' ∧ H' c = some (.lst (cutV (ns.map V.int) none (some 63))) ∧ H' D = some (.lst (g.map V.int)))
      ⟨[], Nat.le_refl _, by walk_at "sm", by walk_at "hu", upd_same⟩ (fun i H' _ ⟨_, _, _, e, _⟩ => SqL.of e) ?_ ?_
    · rintro i x H' hx ⟨g, hg, s', ec, eD⟩
      obtain ⟨n, rfl⟩ := hints x (List.mem_of_getElem? hx)
      walk_at "hs"
      refine ⟨rfl, ?_⟩
      walk_at "hs"
      refine x_isd (fun c1 => ?_) (fun c1 => ?_)
      · walk_at "hs"
        refine ⟨_, eD, szLt (by rw [List.length_map]; have := (List.getElem?_eq_some_iff.mp hx).1; omega), g ++ [if n < 0 then -n else n], by rw [List.length_append]; exact Nat.add_le_add_right hg 1, by walk_at "sm", by walk_at "hu", ?_⟩
        rw [upd_same, List.map_append]
        rfl
      · exact ⟨g, by omega, s', ec, eD⟩
    · rintro H1 ⟨g, hg, s1, ec, eD⟩
      walk_at "hs"
      intro c2 hc2
      have nc2 : H c2 = none := s1.free hc2
      refine ⟨c2, rfl, ⟨_, SqL.of upd_same⟩, fun D2 hD2 => ?_⟩
      have hcD2 : D2 ≠ c2 := by walk_at "ne"
      have nD2 : H D2 = none := s1.free (Same.free (H' := upd H1 c2 _) (same_new (Same.refl _) hc2) hD2)
      have nDD : D ≠ D2 := Ne.symm (ne_none' hD2 (keepN eD hc2))
      refine lc_list (K := K) (a := c2) (xs := cutV (ns.map V.int) none (some 63)) (fun i H' => ∃ z : List Int, z.length ≤ i ∧ Same H H' ∧ H' c2 = some (.lst (cutV (ns.map V.int) none (some 63))) ∧ H' D2 = some (.lst (z.map V.int)) ∧ H' D = some (.lst (g.map V.int)))
        ⟨[], Nat.le_refl _, same_mut (same_mut s1 nc2) nD2, by walk_at "hu", upd_same, by walk_at "hu"⟩ (fun i H' _ ⟨_, _, _, e, _⟩ => SqL.of e) ?_ ?_
      · rintro i x H' hx ⟨z, hz, s', ec, eD2, eD⟩
        obtain ⟨n, rfl⟩ := hints x (List.mem_of_getElem? hx)
        walk_at "hs"
        refine ⟨rfl, ?_⟩
        walk_at "hs"
        refine x_isd (fun c1 => ?_) (fun c1 => ?_)
        · walk_at "hs"
          refine ⟨_, eD2, szLt (by rw [List.length_map]; have := (List.getElem?_eq_some_iff.mp hx).1; omega), z ++ [n % 1000003], by rw [List.length_append]; exact Nat.add_le_add_right hz 1, by walk_at "sm", by walk_at "hu", ?_, by walk_at "hu"⟩
          rw [upd_same, List.map_append]
          rfl
        · exact ⟨z, by omega, s', ec, eD2, eD⟩
      · rintro H2 ⟨z, hz, s2, ec2, eD2, eD⟩
        walk_at "hs"
        exact fun p hp => fin D D2 g z H2 s2 nD nD2 eD eD2 p hp
def spPick (K : PySem.W.Frag) : Sp := fun vs H Q _ => ∃ (p t : Addr) (xs : List V) (F : Addr → Prop), vs = [.ref p, .ref t] ∧ PoolAt H p F ∧ SqL K H t xs ∧ t ≠ p ∧ 0 < xs.length ∧ xs.length ≤ 1000 ∧ ∀ x H', x ∈ xs → But p H H' → PoolAt H' p F → Q x H'
theorem ok_pick {f : Addr} {fd : FuncData} (F : Fun K "_law_pick" "_law_pick" s__law_pick f fd) (B : Bl Z mg) {f__law_draw : Addr} {fd__law_draw : FuncData} (C__law_draw : Cal K mg "_law_draw" f__law_draw fd__law_draw ["_law_pool_here", "_law_many"]) (G__law_draw : FnOk P w K mg base CX0 1 f__law_draw fd__law_draw ["_law_pool_here", "_law_many"] spDraw) : FnOk P w K mg base CX0 2 f fd ["_law_pool_here", "_law_things"] (spPick K) := by
  refine F.ok sc__law_pick (fun vs H Q E h => ?_) (fun cdv A outer s H vs Q E hr h => ?_)
  · obtain ⟨p, t, xs, Fo, rfl, _⟩ := h
    rfl
  · obtain ⟨p, t, xs, Fo, rfl, hp, ht, nt, h0, h1, q⟩ := h
    refine ⟨_, (pss_one (ps_ret (pe_ix (ix_listK (K := K) rfl) (pv 1) (pe_call G__law_draw (hr.mono (by first | decide | omega)) (by rfl) C__law_draw.g C__law_draw.k C__law_draw.b .nil pass0 (pa_cons (pv 0) (pa_cons (pe_callB (call_lenK (K := K) rfl) (by rfl) B.b_len PySem.boot_len (pa_cons (pv 1) pa_nil)) pa_nil))) (fun _ _ => rfl)))), ?_⟩
    walk_at "h0"
    refine ⟨p, _, Fo, rfl, hp, by omega, by omega, fun d H1 d0 d1 b1 p1 => ?_⟩
    obtain ⟨v, hv, hm⟩ := at_lt (xs := xs) d0 d1
    walk_at "hs"
    exact q _ _ hm b1 p1
def spMany : Sp := fun vs H Q _ => ∃ (p : Addr) (F : Addr → Prop), vs = [.ref p] ∧ PoolAt H p F ∧ ∀ (n : Nat) H', 1 ≤ n → n ≤ 40 → But p H H' → PoolAt H' p F → Q (.int n) H'
end
set_option maxRecDepth 100000
set_option maxHeartbeats 1000000
open PySem PySem.Spec L2


theorem sc__law_is : FnScope ["_law_told", "_law_due", "_law_at", "_law_key"] ["_law_told", "_law_due"] (defScope s__law_is) := ⟨rfl, rfl, rfl, by decide +kernel, rfl, by decide +kernel, by decide +kernel⟩
theorem sc_is_within : FnScope ["least", "most", "thing"] ["least", "most", "thing"] (defScope s_is_within) := ⟨rfl, rfl, rfl, by decide +kernel, rfl, by decide +kernel, by decide +kernel⟩
section
variable {P : Program} {w : World} {K : PySem.W.Frag} {mg : Str → Option Value} {base : Heap} {Z : Ad}

def spNum (hi : Nat) : Sp := fun vs H Q _ => ∃ (x : V) (lo hi : Int), vs = [x, .int lo, .int hi] ∧ Kn H x ∧ Q (.bl (numV lo hi x)) H
def spWithin : Sp := fun vs H Q _ => ∃ (x : V) (lo hi : Int), vs = [.int lo, .int hi, x] ∧ Kn H x ∧ Q (.bl (numV lo hi x)) H
theorem ok_within {f : Addr} {fd : FuncData} (F : Fun K "is_within" "is_within" s_is_within f fd) (B : Bl Z mg) : FnOk P w K mg base CX0 1 f fd ["least", "most", "thing"] spWithin := by
  refine F.ok sc_is_within (fun vs H Q E h => ?_) (fun cdv A outer s H vs Q E hr h => ?_)
  · obtain ⟨x, lo, hi, rfl, _⟩ := h
    rfl
  · obtain ⟨x, lo, hi, rfl, hk, q⟩ := h
    refine ⟨_, (pss_cons (ps_if (PW.pt (pw_or (pt_not (pt_val (pe_callB (call_isiK' (K := K) rfl) (by rfl) B.b_isinstance (by decide +kernel) (pa_cons (pv 2) (pa_cons (pe_bltn (v := .ty "int") (by rfl) B.b_int (by decide +kernel) rfl) pa_nil))))) (pw_or1 (pt_val (pe_callB (call_isiK' (K := K) rfl) (by rfl) B.b_isinstance (by decide +kernel) (pa_cons (pv 2) (pa_cons (pe_bltn (v := .ty "bool") (by rfl) B.b_bool (by decide +kernel) rfl) pa_nil))))))) (pss_one (ps_ret pe_bl)) pss_nil)
 (pss_one (ps_ret (pe_chain op_le op_le (pv 0) (pv 2) (pv 1))))), ?_⟩
    walk_at "h0"
    cases x with
    | bl b =>
      walk_at "hs"
      refine iteF ?_
      walk_at "hs"
      exact q
    | int i =>
      refine iteF ?_
      walk_at "hs"
      refine x_isd (fun c => ?_) (fun c => ?_)
      · walk_at "hs"
        have e : numV lo hi (.int i) = decide (i ≤ hi) := numT c
        rw [← e]
        exact q
      · have e : numV lo hi (.int i) = false := numF c
        rw [e] at q
        exact q
    | non => exact iteT (iteT q)
    | str s => exact iteT (iteT q)
    | ref a => exact iteT (iteT q)
    | _ => exact hk.elim
/-- what is laid 33 deep -/
def spDeep (K : PySem.W.Frag) : Sp := fun vs H Q _ => vs = [] ∧ ∀ (a : Addr) (x : V) H', Same H H' → H a = none → H' a = some (.lst [x]) → Al K H' 33 (.ref a) (.ref a) → Q (.ref a) H'
def spIs (K : PySem.W.Frag) (n : Nat) : Sp := fun vs H Q _ => ∃ (x y : V), vs = [x, y] ∧ Al K H n x y ∧ ∀ H', Same H H' → Q (.bl true) H'
theorem fnF {f : Addr} {fd : FuncData} {ps : List Str} : FnOk P w K mg base CX0 1 f fd ps (fun _ _ _ _ => False) := ⟨fun _ _ _ _ h => h.elim, fun _ _ _ _ _ _ _ _ _ _ _ _ _ h => h.elim⟩
theorem is_sca {f : Addr} {fd : FuncData} (F : Fun K "_law_is" "_law_is" s__law_is f fd) (B : Bl Z mg) {x : V} {cdv : Value} {A : Around} {outer : List Env} {s : Shared} {H : Hp} {Q : VK} {E : XK} {j : Nat} (G__law_is : FnOk P w K mg base CX0 1 f fd ["_law_told", "_law_due"] (fun _ _ _ _ => False)) (C__law_is : Cal K mg "_law_is" f fd ["_law_told", "_law_due"]) (hs : sca x = true) (q : ∀ H', Same H H' → Q (.bl true) H') (hr : Room (j + 1) (A.deeper (PyProof.Rows.envOfC "_law_is" (defScope s__law_is) s.heap.objs.size f cdv))) :
    ∃ t, PSs (cxOf CX0 P w K mg base ["_law_told", "_law_due", "_law_at", "_law_key"] "_law_is" (defScope s__law_is) f cdv A outer s H E).nox (defBody s__law_is) t ∧ t { nx := fun _ H' => Q .non H', rt := Q } (L2.start ["_law_told", "_law_due", "_law_at", "_law_key"] [x, x]) H := by
  refine ⟨_, (pss_cons (ps_if (pt_val (pe_callB (call_isiTK (K := K) rfl) (by rfl) B.b_isinstance (by decide +kernel) (pa_cons (pv 1) (pa_cons (pe_tup (pa_cons (pe_bltn (v := .ty "tuple") (by rfl) B.b_tuple (by decide +kernel) rfl) (pa_cons (pe_bltn (v := .ty "list") (by rfl) B.b_list (by decide +kernel) rfl) pa_nil))) pa_nil)))) (pss_cons (ps_if (PW.pt (pw_or (pt_cmpR op_ne (pe_callB (call_isiK' (K := K) rfl) (by rfl) B.b_isinstance (by decide +kernel) (pa_cons (pv 0) (pa_cons (pe_bltn (v := .ty "tuple") (by rfl) B.b_tuple (by decide +kernel) rfl) pa_nil))) (pe_callB (call_isiK' (K := K) rfl) (by rfl) B.b_isinstance (by decide +kernel) (pa_cons (pv 1) (pa_cons (pe_bltn (v := .ty "tuple") (by rfl) B.b_tuple (by decide +kernel) rfl) pa_nil))) (nomark _)) (pw_or1 (pt_cmpR op_ne (pe_callB (call_isiK' (K := K) rfl) (by rfl) B.b_isinstance (by decide +kernel) (pa_cons (pv 0) (pa_cons (pe_bltn (v := .ty "list") (by rfl) B.b_list (by decide +kernel) rfl) pa_nil))) (pe_callB (call_isiK' (K := K) rfl) (by rfl) B.b_isinstance (by decide +kernel) (pa_cons (pv 1) (pa_cons (pe_bltn (v := .ty "list") (by rfl) B.b_list (by decide +kernel) rfl) pa_nil))) (nomark _))))) (pss_one (ps_ret pe_bl)) pss_nil)
 (pss_one (ps_ret (pe_and (pe_cmpR op_eq (pe_callB (call_lenK (K := K) rfl) (by rfl) B.b_len PySem.boot_len (pa_cons (pv 0) pa_nil)) (pe_callB (call_lenK (K := K) rfl) (by rfl) B.b_len PySem.boot_len (pa_cons (pv 1) pa_nil)) (nomark _)) (pe_one (pe_callB (cr_allK (K := K) rfl rfl) (by rfl) B.b_all (by decide +kernel) (pa_cons (pe_lc (own := [("_law_at", 2)]) rfl sc__law_is.nd (pi_range1 rfl B.b_range (pa_cons (pe_callB (call_lenK (K := K) rfl) (by rfl) B.b_len PySem.boot_len (pa_cons (pv 1) pa_nil)) pa_nil)) (blkOk_by (N := ["_law_told", "_law_due", "_law_at", "_law_key"]) (sc := defScope s__law_is) (by decide +kernel)) (fun _ _ _ _ _ => (pg_name (i := 2) sc__law_is.nd rfl (Or.inl rfl))) (fun _ _ _ _ _ => pts_nil) (fun _ _ _ _ _ => (pe_call G__law_is (hr.mono (by first | decide | omega)) (by rfl) C__law_is.g C__law_is.k C__law_is.b .nil pass0 (pa_cons (pe_ix (ix_seqK (K := K) rfl) (pv 0) (pv 2) (fun _ _ => rfl)) (pa_cons (pe_ix (ix_seqK (K := K) rfl) (pv 1) (pv 2) (fun _ _ => rfl)) pa_nil))))) pa_nil))))))) pss_nil)
 (pss_cons (ps_if (pt_val (pe_callB (call_isiK' (K := K) rfl) (by rfl) B.b_isinstance (by decide +kernel) (pa_cons (pv 1) (pa_cons (pe_bltn (v := .ty "dict") (by rfl) B.b_dict (by decide +kernel) rfl) pa_nil)))) pss_never pss_nil)
 (pss_cons (ps_if (pt_cmpR op_isNk (pv 1) pe_non (nomark _)) (pss_one (ps_ret (pe_cmpR op_isNk (pv 0) pe_non (nomark _)))) pss_nil)
 (pss_one (ps_ret (pe_and (pe_cmpR op_eq (pe_callB (call_isiK' (K := K) rfl) (by rfl) B.b_isinstance (by decide +kernel) (pa_cons (pv 0) (pa_cons (pe_bltn (v := .ty "bool") (by rfl) B.b_bool (by decide +kernel) rfl) pa_nil))) (pe_callB (call_isiK' (K := K) rfl) (by rfl) B.b_isinstance (by decide +kernel) (pa_cons (pv 1) (pa_cons (pe_bltn (v := .ty "bool") (by rfl) B.b_bool (by decide +kernel) rfl) pa_nil))) (nomark _)) (pe_and (pe_cmpR op_notNk (pv 0) pe_non (nomark _)) (pe_one (pe_cmpR op_eq (pv 0) (pv 1) (nomark _)))))))))), ?_⟩
  walk_at "h0"
  intro p hp
  walk_at "hs"
  cases x with
  | non =>
    refine x_isiTn (t := "NoneType") upd_same (.base .non) (by decide +kernel) (by decide +kernel) ?_
    walk_at "hs"
    exact q _ (by walk_at "sm")
  | bl b =>
    refine x_isiTn (t := "bool") upd_same (.base (.bl b)) (by decide +kernel) (by decide +kernel) ?_
    walk_at "hs"
    rw [decide_eq_true rfl]
    exact q _ (by walk_at "sm")
  | int i =>
    refine x_isiTn (t := "int") upd_same (.base (.int i)) (by decide +kernel) (by decide +kernel) ?_
    walk_at "hs"
    rw [decide_eq_true rfl]
    exact q _ (by walk_at "sm")
  | str i =>
    refine x_isiTn (t := "str") upd_same (.base (.str i)) (by decide +kernel) (by decide +kernel) ?_
    walk_at "hs"
    rw [decide_eq_true rfl]
    exact q _ (by walk_at "sm")
  | _ => cases hs
theorem ok_is {f : Addr} {fd : FuncData} (F : Fun K "_law_is" "_law_is" s__law_is f fd) (B : Bl Z mg) (C__law_is : Cal K mg "_law_is" f fd ["_law_told", "_law_due"]) : ∀ n, FnOk P w K mg base CX0 (n + 2) f fd ["_law_told", "_law_due"] (spIs K n)
  | 0 => by
    refine F.ok sc__law_is (fun vs H Q E h => ?_) (fun cdv A outer s H vs Q E hr h => ?_)
    · obtain ⟨x, y, rfl, _⟩ := h
      rfl
    · obtain ⟨x, y, rfl, ⟨rfl, hs⟩, q⟩ := h
      exact is_sca F B fnF C__law_is hs q hr
  | n + 1 => by
    have G__law_is := ok_is F B C__law_is n
    refine F.ok sc__law_is (fun vs H Q E h => ?_) (fun cdv A outer s H vs Q E hr h => ?_)
    · obtain ⟨x, y, rfl, _⟩ := h
      rfl
    · obtain ⟨x, y, rfl, hal, q⟩ := h
      rcases hal with ⟨rfl, hs⟩ | ⟨a, b, xs, ys, rfl, rfl, ha, hb, hl, hsz, hal⟩ | ⟨a, b, xs, ys, rfl, rfl, ha, hb, hl, hsz, hal⟩
      · exact is_sca F B fnF C__law_is hs q hr
      all_goals refine ⟨_, (pss_cons (ps_if (pt_val (pe_callB (call_isiTK (K := K) rfl) (by rfl) B.b_isinstance (by decide +kernel) (pa_cons (pv 1) (pa_cons (pe_tup (pa_cons (pe_bltn (v := .ty "tuple") (by rfl) B.b_tuple (by decide +kernel) rfl) (pa_cons (pe_bltn (v := .ty "list") (by rfl) B.b_list (by decide +kernel) rfl) pa_nil))) pa_nil)))) (pss_cons (ps_if (PW.pt (pw_or (pt_cmpR op_ne (pe_callB (call_isiK' (K := K) rfl) (by rfl) B.b_isinstance (by decide +kernel) (pa_cons (pv 0) (pa_cons (pe_bltn (v := .ty "tuple") (by rfl) B.b_tuple (by decide +kernel) rfl) pa_nil))) (pe_callB (call_isiK' (K := K) rfl) (by rfl) B.b_isinstance (by decide +kernel) (pa_cons (pv 1) (pa_cons (pe_bltn (v := .ty "tuple") (by rfl) B.b_tuple (by decide +kernel) rfl) pa_nil))) (nomark _)) (pw_or1 (pt_cmpR op_ne (pe_callB (call_isiK' (K := K) rfl) (by rfl) B.b_isinstance (by decide +kernel) (pa_cons (pv 0) (pa_cons (pe_bltn (v := .ty "list") (by rfl) B.b_list (by decide +kernel) rfl) pa_nil))) (pe_callB (call_isiK' (K := K) rfl) (by rfl) B.b_isinstance (by decide +kernel) (pa_cons (pv 1) (pa_cons (pe_bltn (v := .ty "list") (by rfl) B.b_list (by decide +kernel) rfl) pa_nil))) (nomark _))))) (pss_one (ps_ret pe_bl)) pss_nil)
 (pss_one (ps_ret (pe_and (pe_cmpR op_eq (pe_callB (call_lenK (K := K) rfl) (by rfl) B.b_len PySem.boot_len (pa_cons (pv 0) pa_nil)) (pe_callB (call_lenK (K := K) rfl) (by rfl) B.b_len PySem.boot_len (pa_cons (pv 1) pa_nil)) (nomark _)) (pe_one (pe_callB (cr_allK (K := K) rfl rfl) (by rfl) B.b_all (by decide +kernel) (pa_cons (pe_lc (own := [("_law_at", 2)]) rfl sc__law_is.nd (pi_range1 rfl B.b_range (pa_cons (pe_callB (call_lenK (K := K) rfl) (by rfl) B.b_len PySem.boot_len (pa_cons (pv 1) pa_nil)) pa_nil)) (blkOk_by (N := ["_law_told", "_law_due", "_law_at", "_law_key"]) (sc := defScope s__law_is) (by decide +kernel)) (fun _ _ _ _ _ => (pg_name (i := 2) sc__law_is.nd rfl (Or.inl rfl))) (fun _ _ _ _ _ => pts_nil) (fun _ _ _ _ _ => (pe_call G__law_is (hr.mono (by first | decide | omega)) (by rfl) C__law_is.g C__law_is.k C__law_is.b .nil pass0 (pa_cons (pe_ix (ix_seqK (K := K) rfl) (pv 0) (pv 2) (fun _ _ => rfl)) (pa_cons (pe_ix (ix_seqK (K := K) rfl) (pv 1) (pv 2) (fun _ _ => rfl)) pa_nil))))) pa_nil))))))) pss_nil)
 (pss_cons (ps_if (pt_val (pe_callB (call_isiK' (K := K) rfl) (by rfl) B.b_isinstance (by decide +kernel) (pa_cons (pv 1) (pa_cons (pe_bltn (v := .ty "dict") (by rfl) B.b_dict (by decide +kernel) rfl) pa_nil)))) pss_never pss_nil)
 (pss_cons (ps_if (pt_cmpR op_isNk (pv 1) pe_non (nomark _)) (pss_one (ps_ret (pe_cmpR op_isNk (pv 0) pe_non (nomark _)))) pss_nil)
 (pss_one (ps_ret (pe_and (pe_cmpR op_eq (pe_callB (call_isiK' (K := K) rfl) (by rfl) B.b_isinstance (by decide +kernel) (pa_cons (pv 0) (pa_cons (pe_bltn (v := .ty "bool") (by rfl) B.b_bool (by decide +kernel) rfl) pa_nil))) (pe_callB (call_isiK' (K := K) rfl) (by rfl) B.b_isinstance (by decide +kernel) (pa_cons (pv 1) (pa_cons (pe_bltn (v := .ty "bool") (by rfl) B.b_bool (by decide +kernel) rfl) pa_nil))) (nomark _)) (pe_and (pe_cmpR op_notNk (pv 0) pe_non (nomark _)) (pe_one (pe_cmpR op_eq (pv 0) (pv 1) (nomark _)))))))))), ?_⟩
      all_goals walk_at "h0"
      all_goals intro p hp
      all_goals walk_at "hs"
      · refine x_isiTb (t := "list") upd_same (.base (.lst (by walk_at "hu"))) (by decide +kernel) (by decide +kernel) ?_
        walk_at "hs"
        refine x_isdT (by omega) ?_
        walk_at "hs"
        refine ⟨(ys.length : Int), rfl, by omega, by have := hsz; omega, fun D hD => ?_⟩
        have nD : H D = none := Same.free (H' := upd H p _) (same_new (Same.refl _) hp) hD
        refine lc_range (lo := 0) (n := Int.toNat ys.length) (fun i H' => Same H H' ∧ H' D = some (.lst ((List.replicate i true).map V.bl)))
          ⟨by walk_at "sm", upd_same⟩ ?_ ?_
        · rintro i H' hi ⟨s1, eD⟩
          have h1 : i < xs.length := by omega
          have h2 : i < ys.length := by omega
          have a1 : atI xs (0 + (i : Int)) = some xs[i] := by
            rw [Int.zero_add]
            exact atI_nat (List.getElem?_eq_getElem h1)
          have a2 : atI ys (0 + (i : Int)) = some ys[i] := by
            rw [Int.zero_add]
            exact atI_nat (List.getElem?_eq_getElem h2)
          have ha' := s1 _ _ ha
          have hb' := s1 _ _ hb
          walk_at "hs"
          refine ⟨rfl, ?_⟩
          walk_at "hs"
          refine ⟨_, _, rfl, (hal i h1 h2).same s1, fun H2 s2 => ?_⟩
          refine ⟨_, s2 _ _ eD, szLt (by rw [List.length_map, List.length_replicate]; have := hsz; omega), by walk_at "sm", ?_⟩
          rw [upd_same, List.replicate_succ', List.map_append]
          rfl
        · rintro H' ⟨s1, eD⟩
          walk_at "hs"
          refine ⟨D, _, rfl, SqL.of eD, ?_⟩
          rw [show (List.replicate (Int.toNat (ys.length : Int)) true).all id = true by simp]
          exact q _ (by walk_at "sm")
      · refine x_isiT1 (t := "tuple") upd_same (.base (.tup (by walk_at "hu"))) (by decide +kernel) (by decide +kernel) ?_
        walk_at "hs"
        refine x_isdT (by omega) ?_
        walk_at "hs"
        refine ⟨(ys.length : Int), rfl, by omega, by have := hsz; omega, fun D hD => ?_⟩
        have nD : H D = none := Same.free (H' := upd H p _) (same_new (Same.refl _) hp) hD
        refine lc_range (lo := 0) (n := Int.toNat ys.length) (fun i H' => Same H H' ∧ H' D = some (.lst ((List.replicate i true).map V.bl)))
          ⟨by walk_at "sm", upd_same⟩ ?_ ?_
        · rintro i H' hi ⟨s1, eD⟩
          have h1 : i < xs.length := by omega
          have h2 : i < ys.length := by omega
          have a1 : atI xs (0 + (i : Int)) = some xs[i] := by
            rw [Int.zero_add]
            exact atI_nat (List.getElem?_eq_getElem h1)
          have a2 : atI ys (0 + (i : Int)) = some ys[i] := by
            rw [Int.zero_add]
            exact atI_nat (List.getElem?_eq_getElem h2)
          have ha' := s1 _ _ ha
          have hb' := s1 _ _ hb
          walk_at "hs"
          refine ⟨rfl, ?_⟩
          walk_at "hs"
          refine ⟨_, _, rfl, (hal i h1 h2).same s1, fun H2 s2 => ?_⟩
          refine ⟨_, s2 _ _ eD, szLt (by rw [List.length_map, List.length_replicate]; have := hsz; omega), by walk_at "sm", ?_⟩
          rw [upd_same, List.replicate_succ', List.map_append]
          rfl
        · rintro H' ⟨s1, eD⟩
          walk_at "hs"
          refine ⟨D, _, rfl, SqL.of eD, ?_⟩
          rw [show (List.replicate (Int.toNat (ys.length : Int)) true).all id = true by simp]
          exact q _ (by walk_at "sm")
end
set_option maxRecDepth 100000
set_option maxHeartbeats 1000000
open PySem PySem.Spec L2


theorem sc__law_mixed : FnScope ["_law_pool_here", "_law_many", "_law_left", "_law_turn"] ["_law_pool_here", "_law_many"] (defScope s__law_mixed) := ⟨rfl, rfl, rfl, by decide +kernel, rfl, by decide +kernel, by decide +kernel⟩
theorem sc__law_hung : FnScope ["_law_pool_here", "_law_many", "_law_kind", "_law_order", "_law_found", "_law_at", "_law_above"] ["_law_pool_here", "_law_many"] (defScope s__law_hung) := ⟨rfl, rfl, rfl, by decide +kernel, rfl, by decide +kernel, by decide +kernel⟩
section
variable {P : Program} {w : World} {K : PySem.W.Frag} {mg : Str → Option Value} {base : Heap} {Z : Ad}

def spMixed : Sp := fun vs H Q _ => ∃ (p : Addr) (n : Nat) (F : Addr → Prop), vs = [.ref p, .int n] ∧ PoolAt H p F ∧ 1 ≤ n ∧ n ≤ 40 ∧ ∀ (D : Addr) (ms : List Nat) H', ms.Perm (List.range' 1 n) → But p H H' → PoolAt H' p F → H D = none → H' D = some (.lst (nats ms)) → Q (.ref D) H'
theorem ok_mixed {f : Addr} {fd : FuncData} (F : Fun K "_law_mixed" "_law_mixed" s__law_mixed f fd) (B : Bl Z mg) {f__law_draw : Addr} {fd__law_draw : FuncData} (C__law_draw : Cal K mg "_law_draw" f__law_draw fd__law_draw ["_law_pool_here", "_law_many"]) (G__law_draw : FnOk P w K mg base CX0 1 f__law_draw fd__law_draw ["_law_pool_here", "_law_many"] spDraw) : FnOk P w K mg base CX0 2 f fd ["_law_pool_here", "_law_many"] spMixed := by
  refine F.ok sc__law_mixed (fun vs H Q E h => ?_) (fun cdv A outer s H vs Q E hr h => ?_)
  · obtain ⟨p, n, Fo, rfl, _⟩ := h
    rfl
  · obtain ⟨p, n, Fo, rfl, hp, n1, n2, q⟩ := h
    refine ⟨_, (pss_cons (ps_set (i := 2) sc__law_mixed.nd rfl (Or.inr rfl) (pe_listRg rfl (by rfl) B.b_list (prg_2 (by rfl) B.b_range pe_int (pe_op op_add (pv 1) pe_int))))
 (pss_one (ps_ret (pe_lc (own := [("_law_turn", 3)]) rfl sc__law_mixed.nd (pi_range1 rfl B.b_range (pa_cons (pv 1) pa_nil)) (blkOk_by (N := ["_law_pool_here", "_law_many", "_law_left", "_law_turn"]) (sc := defScope s__law_mixed) (by decide +kernel)) (fun _ _ _ _ _ => (pg_name (i := 3) sc__law_mixed.nd rfl (Or.inl rfl))) (fun _ _ _ _ _ => pts_nil) (fun _ _ _ _ _ => (pe_bmK (K := K) rfl PySem.F.plainAttrs_list PySem.F.slot_list_pop PySem.F.type_list_pop mt_popAt (pv 2) (pa_cons (pe_call G__law_draw (hr.mono (by first | decide | omega)) (by rfl) C__law_draw.g C__law_draw.k C__law_draw.b .nil pass0 (pa_cons (pv 0) (pa_cons (pe_callB (call_lenK (K := K) rfl) (by rfl) B.b_len PySem.boot_len (pa_cons (pv 2) pa_nil)) pa_nil))) pa_nil))))))), ?_⟩
    walk_at "h0"
    refine ⟨⟨by omega, by omega, by omega, by omega, by omega⟩, fun L hL => ?_⟩
    rw [rgV_nats]
    walk_at "hs"
    refine ⟨n, rfl, by omega, by omega, fun D hD => ?_⟩
    have nD : H D = none := Same.free (H' := upd H L _) (same_new (Same.refl _) hL) hD
    have nLD : L ≠ D := ne_of_none upd_same hD
    refine lc_range (lo := 0) (n := Int.toNat n) (fun i H' => ∃ ls ms : List Nat, (ms ++ ls).Perm (List.range' 1 n) ∧ ms.length = i ∧ But p H H' ∧ PoolAt H' p (fun a => a = D ∨ a = L ∨ Fo a) ∧ H' L = some (.lst (nats ls)) ∧ H' D = some (.lst (nats ms)))
      ⟨List.range' 1 n, [], List.Perm.refl _, rfl, by walk_at "bt", (hp.own hL).own hD, by walk_at "hu", upd_same⟩ ?_ ?_
    · rintro i H' hi ⟨ls, ms, hpm, hm, b1, p1, eL, eD⟩
      have hlen : ms.length + ls.length = n := by rw [← List.length_append, hpm.length_eq, List.length_range']
      walk_at "hs"
      refine ⟨rfl, ?_⟩
      walk_at "hs"
      refine ⟨p, _, _, rfl, p1, by rw [nats_length]; omega, by rw [nats_length]; omega, fun d H2 d0 d1 b2 p2 => ?_⟩
      rw [nats_length] at d1
      obtain ⟨k, rfl⟩ := Int.eq_ofNat_of_zero_le d0
      have hk : k < ls.length := by omega
      have eL2 := b2 _ _ (p1.neF (.inr (.inl rfl))) eL
      have eD2 := b2 _ _ (p1.neF (.inl rfl)) eD
      walk_at "hs"
      refine x_popAt eL2 (by omega) (by omega) (ixN_nat (by rw [nats_length]; exact hk)) (nats_get (List.getElem?_eq_getElem hk)) ?_
      refine ⟨_, keepM (Ne.symm nLD) eD2, szLt (by rw [nats_length]; omega), ls.eraseIdx k, ms ++ [ls[k]], ?_, by rw [List.length_append, hm]; rfl, ?_, (p2.mut (.inr (.inl rfl))).mut (.inl rfl), ?_, ?_⟩
      · rw [List.append_assoc]
        exact ((perm_erase (List.getElem?_eq_getElem hk)).append_left ms).trans hpm
      · exact ((b1.trans b2).mutF hL).mutF nD
      · rw [upd_ne nLD, upd_same, nats_erase]
      · rw [upd_same, nats_append]
        rfl
    · rintro H' ⟨ls, ms, hpm, hm, b1, p1, eL, eD⟩
      have hlen : ms.length + ls.length = n := by rw [← List.length_append, hpm.length_eq, List.length_range']
      have e : ls = [] := List.length_eq_zero_iff.mp (by omega)
      rw [e, List.append_nil] at hpm
      walk_at "hs"
      exact q D ms H' hpm b1 (p1.weak fun a h => .inr (.inr h)) nD eD
def spHung : Sp := fun vs H Q _ => ∃ (p : Addr) (n : Nat) (F : Addr → Prop), vs = [.ref p, .int n] ∧ PoolAt H p F ∧ 1 ≤ n ∧ n ≤ 40 ∧ ∀ (D : Addr) (hs : List Nat) H', IsTree hs → hs.length = n → But p H H' → PoolAt H' p F → H D = none → H' D = some (.tup (nats hs)) → Q (.ref D) H'
theorem ok_hung {f : Addr} {fd : FuncData} (F : Fun K "_law_hung" "_law_hung" s__law_hung f fd) (B : Bl Z mg) {f__law_draw : Addr} {fd__law_draw : FuncData} (C__law_draw : Cal K mg "_law_draw" f__law_draw fd__law_draw ["_law_pool_here", "_law_many"]) (G__law_draw : FnOk P w K mg base CX0 1 f__law_draw fd__law_draw ["_law_pool_here", "_law_many"] spDraw) {f__law_mixed : Addr} {fd__law_mixed : FuncData} (C__law_mixed : Cal K mg "_law_mixed" f__law_mixed fd__law_mixed ["_law_pool_here", "_law_many"]) (G__law_mixed : FnOk P w K mg base CX0 2 f__law_mixed fd__law_mixed ["_law_pool_here", "_law_many"] spMixed) : FnOk P w K mg base CX0 3 f fd ["_law_pool_here", "_law_many"] spHung := by
  refine F.ok sc__law_hung (fun vs H Q E h => ?_) (fun cdv A outer s H vs Q E hr h => ?_)
  · obtain ⟨p, n, Fo, rfl, _⟩ := h
    rfl
  · obtain ⟨p, n, Fo, rfl, hp, n1, n2, q⟩ := h
    refine ⟨_, (pss_cons (ps_set (i := 2) sc__law_hung.nd rfl (Or.inl rfl) (pe_call G__law_draw (hr.mono (by first | decide | omega)) (by rfl) C__law_draw.g C__law_draw.k C__law_draw.b .nil pass0 (pa_cons (pv 0) (pa_cons pe_int pa_nil))))
 (pss_cons (ps_set (i := 3) sc__law_hung.nd rfl (Or.inl rfl) (pe_op op_cat (pe_lst (pa_cons pe_int pa_nil)) (pe_call G__law_mixed (hr.mono (by first | decide | omega)) (by rfl) C__law_mixed.g C__law_mixed.k C__law_mixed.b .nil pass0 (pa_cons (pv 0) (pa_cons (pv 1) pa_nil)))))
 (pss_cons (ps_set (i := 4) sc__law_hung.nd rfl (Or.inl rfl) (pe_op op_rep (pe_lst (pa_cons pe_int pa_nil)) (pv 1)))
 (pss_cons (ps_for PassesOwn.never rfl (pi_range2 rfl B.b_range (pa_cons pe_int (pa_cons (pe_op op_add (pv 1) pe_int) pa_nil))) (pg_name (i := 5) sc__law_hung.nd rfl (Or.inl rfl)) (pss_cons (ps_set (i := 6) sc__law_hung.nd rfl (Or.inl rfl) (pe_call G__law_draw (hr.mono (by first | decide | omega)) (by rfl) C__law_draw.g C__law_draw.k C__law_draw.b .nil pass0 (pa_cons (pv 0) (pa_cons (pv 5) pa_nil))))
 (C8.pss_cut (ps_if (PW.pt (pw_or (pt_cmpR op_eq (pv 2) pe_int (nomark _)) (pw_or1 (PW.pt (pw_and (pt_cmpR op_eq (pv 2) pe_int (nomark _)) (pw_and1 (pt_cmpR op_gt (pe_call G__law_draw (hr.mono (by first | decide | omega)) (by rfl) C__law_draw.g C__law_draw.k C__law_draw.b .nil pass0 (pa_cons (pv 0) (pa_cons pe_int pa_nil))) pe_int (nomark _)))))))) (pss_one (ps_set (i := 6) sc__law_hung.nd rfl (Or.inl rfl) (pe_op op_sub (pv 5) pe_int))) pss_nil)
 (C8.pss_cut (ps_if (PW.pt (pw_and (pt_cmpR op_eq (pv 2) pe_int (nomark _)) (pw_and1 (pt_cmpR op_eq (pe_call G__law_draw (hr.mono (by first | decide | omega)) (by rfl) C__law_draw.g C__law_draw.k C__law_draw.b .nil pass0 (pa_cons (pv 0) (pa_cons pe_int pa_nil))) pe_int (nomark _))))) (pss_one (ps_set (i := 6) sc__law_hung.nd rfl (Or.inl rfl) pe_int)) pss_nil)
 (pss_one (ps_asg (pe_ix (ix_listK (K := K) rfl) (pv 3) (pv 6) (fun _ _ => rfl)) (pg_sub (pv 4) (pe_op op_sub (pe_ix (ix_listK (K := K) rfl) (pv 3) (pv 5) (fun _ _ => rfl)) pe_int) set_list)))))))
 (pss_one (ps_ret (pe_callTy (call_tplK (K := K) rfl) (by rfl) B.b_tuple (by decide +kernel) (pa_cons (pv 4) pa_nil)))))))), ?_⟩
    walk_at "h0"
    refine ⟨p, _, _, rfl, hp, by decide, by decide, fun kd H1 k0 k1 b1 p1 => ?_⟩
    walk_at "hs"
    intro l0 hl0
    walk_at "hs"
    refine ⟨p, n, _, rfl, p1.own hl0, n1, n2, fun O ms H2 hperm b2 p2 nO eO => ?_⟩
    have e0 := b2 _ _ (p2.neF (.inl rfl)) upd_same
    have hlen : ms.length = n := by rw [hperm.length_eq, List.length_range']
    walk_at "hs"
    refine x_cat e0 eO (szLe (by rw [nats_length]; show 1 + _ ≤ _; omega)) fun O2 hO2 => ?_
    walk_at "hs"
    intro l1 hl1
    walk_at "hs"
    refine x_rep1 upd_same (by omega) fun R hR => ?_
    rw [nats_rep]
    walk_at "hs"
    have hR2 : H2 R = none := Same.free (H' := upd (upd H2 O2 _) l1 _) (same_new (same_new (Same.refl _) hO2) hl1) hR
    have b12 : But p H H2 := (b1.trans (But.new (But.refl p H1) hl0)).trans b2
    have nO2 : H O2 = none := b12.freeB (p2.ne hO2) hO2
    have nR : H R = none := b12.freeB (p2.ne hR2) hR2
    have hOR : O2 ≠ R := ne_of_none (keepN upd_same hl1) hR
    refine ⟨1, (n : Int) + 1, rfl, ⟨by omega, by omega, by omega, by omega⟩, ?_⟩
    refine lp_range (lo := 1) (n := Int.toNat ((n : Int) + 1 - 1)) (fun i σ' H' => ∃ (x5 x6 : Option V) (fs : List Nat), σ' = [some (.ref p), some (.int n), some (.int kd), some (.ref O2), some (.ref R), x5, x6] ∧ fs.length = n ∧ But p H H' ∧ PoolAt H' p (fun a => a = R ∨ a = O2 ∨ Fo a) ∧ H' O2 = some (.lst (nats (0 :: ms))) ∧ H' R = some (.lst (nats fs)) ∧ ∀ (i' x : Nat), i' < i → ms[i']? = some x → ∃ j y : Nat, j ≤ i' ∧ (0 :: ms)[j]? = some y ∧ fs[x - 1]? = some y)
      ⟨none, none, List.replicate n 0, rfl, List.length_replicate, ?_, (((p2.weak fun a h => .inr h).own hO2).newH hl1).own hR, keepN (keepN upd_same hl1) hR, upd_same, fun i' x h => absurd h (Nat.not_lt_zero _)⟩ ?_ ?_
    · exact ((((b1.trans (But.new (But.refl p H1) hl0)).trans b2).new hO2).new hl1).new hR
    · rintro i σ' H3 hi ⟨x5, x6, fs, rfl, hfs, b3, p3, eO2, eR, hd⟩
      have hi' : i < ms.length := by omega
      walk_at "hs"
      refine ⟨p, _, _, rfl, p3, by omega, by omega, fun d H4 d0 d1 b4 p4 => ?_⟩
      obtain ⟨dn, rfl⟩ := Int.eq_ofNat_of_zero_le d0
      have eO4 := b4 _ _ (p3.neF (.inr (.inl rfl))) eO2
      have eR4 := b4 _ _ (p3.neF (.inl rfl)) eR
      walk_at "hs"
      refine ⟨fun σ' H' => ∃ ab : Nat, ab ≤ i ∧ σ' = [some (.ref p), some (.int n), some (.int kd), some (.ref O2), some (.ref R), some (.int (1 + (i : Int))), some (.int ab)] ∧ But p H H' ∧ PoolAt H' p (fun a => a = R ∨ a = O2 ∨ Fo a) ∧ H' O2 = some (.lst (nats (0 :: ms))) ∧ H' R = some (.lst (nats fs)), ?_, ?_⟩
      · have no : ∀ H5, But p H4 H5 → PoolAt H5 p (fun a => a = R ∨ a = O2 ∨ Fo a) → ∃ ab : Nat, ab ≤ i ∧ [some (V.ref p), some (V.int n), some (V.int kd), some (V.ref O2), some (V.ref R), some (V.int (1 + (i : Int))), some (V.int dn)] = [some (.ref p), some (.int n), some (.int kd), some (.ref O2), some (.ref R), some (.int (1 + (i : Int))), some (.int ab)] ∧ But p H H5 ∧ PoolAt H5 p (fun a => a = R ∨ a = O2 ∨ Fo a) ∧ H5 O2 = some (.lst (nats (0 :: ms))) ∧ H5 R = some (.lst (nats fs)) := fun H5 b5 p5 =>
          ⟨dn, by omega, rfl, (b3.trans b4).trans b5, p5, b5 _ _ (p4.neF (.inr (.inl rfl))) eO4, b5 _ _ (p4.neF (.inl rfl)) eR4⟩
        have yes : ∀ H5, But p H4 H5 → PoolAt H5 p (fun a => a = R ∨ a = O2 ∨ Fo a) → ∃ ab : Nat, ab ≤ i ∧ [some (V.ref p), some (V.int n), some (V.int kd), some (V.ref O2), some (V.ref R), some (V.int (1 + (i : Int))), some (V.int (1 + (i : Int) - 1))] = [some (.ref p), some (.int n), some (.int kd), some (.ref O2), some (.ref R), some (.int (1 + (i : Int))), some (.int ab)] ∧ But p H H5 ∧ PoolAt H5 p (fun a => a = R ∨ a = O2 ∨ Fo a) ∧ H5 O2 = some (.lst (nats (0 :: ms))) ∧ H5 R = some (.lst (nats fs)) := fun H5 b5 p5 =>
          ⟨i, Nat.le_refl _, by rw [show 1 + (i : Int) - 1 = i by omega], (b3.trans b4).trans b5, p5, b5 _ _ (p4.neF (.inr (.inl rfl))) eO4, b5 _ _ (p4.neF (.inl rfl)) eR4⟩
        walk_at "hs"
        refine x_isd (fun c => ?_) (fun c => ?_)
        · walk_at "hs"
          exact yes H4 (But.refl _ _) p4
        · walk_at "hs"
          refine x_isd (fun c => ?_) (fun c => ?_)
          · walk_at "hs"
            refine ⟨p, _, _, rfl, p4, by decide, by decide, fun d2 H5 d20 d21 b5 p5 => ?_⟩
            walk_at "hs"
            refine x_isd (fun c => ?_) (fun c => ?_)
            · walk_at "hs"
              exact yes H5 b5 p5
            · walk_at "hs"
              exact no H5 b5 p5
          · walk_at "hs"
            exact no H4 (But.refl _ _) p4
      · rintro σ5 H5 ⟨ab, hab, rfl, b5, p5, eO5, eR5⟩
        refine ⟨fun σ' H' => ∃ ab : Nat, ab ≤ i ∧ σ' = [some (.ref p), some (.int n), some (.int kd), some (.ref O2), some (.ref R), some (.int (1 + (i : Int))), some (.int ab)] ∧ But p H H' ∧ PoolAt H' p (fun a => a = R ∨ a = O2 ∨ Fo a) ∧ H' O2 = some (.lst (nats (0 :: ms))) ∧ H' R = some (.lst (nats fs)), ?_, ?_⟩
        · have go : ∀ (ab : Nat) H6, ab ≤ i → But p H5 H6 → PoolAt H6 p (fun a => a = R ∨ a = O2 ∨ Fo a) → ∃ ab' : Nat, ab' ≤ i ∧ [some (V.ref p), some (V.int n), some (V.int kd), some (V.ref O2), some (V.ref R), some (V.int (1 + (i : Int))), some (V.int ab)] = [some (.ref p), some (.int n), some (.int kd), some (.ref O2), some (.ref R), some (.int (1 + (i : Int))), some (.int ab')] ∧ But p H H6 ∧ PoolAt H6 p (fun a => a = R ∨ a = O2 ∨ Fo a) ∧ H6 O2 = some (.lst (nats (0 :: ms))) ∧ H6 R = some (.lst (nats fs)) := fun ab H6 hab b6 p6 =>
            ⟨ab, hab, rfl, b5.trans b6, p6, b6 _ _ (p5.neF (.inr (.inl rfl))) eO5, b6 _ _ (p5.neF (.inl rfl)) eR5⟩
          walk_at "hs"
          refine x_isd (fun c => ?_) (fun c => ?_)
          · walk_at "hs"
            refine ⟨p, _, _, rfl, p5, by decide, by decide, fun d2 H6 d20 d21 b6 p6 => ?_⟩
            walk_at "hs"
            refine x_isd (fun c => ?_) (fun c => ?_)
            · walk_at "hs"
              exact go 0 H6 (Nat.zero_le _) b6 p6
            · walk_at "hs"
              exact go ab H6 hab b6 p6
          · walk_at "hs"
            exact go ab H5 hab (But.refl _ _) p5
        · rintro σ6 H6 ⟨ab, hab, rfl, b6, p6, eO6, eR6⟩
          have ha : ab < (0 :: ms).length := by rw [List.length_cons]; omega
          have hy := List.getElem?_eq_getElem ha
          have hx := List.getElem?_eq_getElem hi'
          have hxm := (List.mem_range'_1.mp (hperm.mem_iff.mp (List.getElem_mem hi')))
          have at1 : atI (nats (0 :: ms)) (ab : Int) = some (.int ((0 :: ms)[ab] : Nat)) := nats_at hy
          have at2 : atI (nats (0 :: ms)) (1 + (i : Int)) = some (.int (ms[i] : Nat)) := by
            have := nats_at (l := 0 :: ms) (i := i + 1) (x := ms[i]) hx
            rw [show 1 + (i : Int) = ((i + 1 : Nat) : Int) by omega]
            exact this
          have at3 : ixN (nats fs).length ((ms[i] : Nat) - 1 : Int) = some (ms[i] - 1) := by
            rw [show ((ms[i] : Nat) - 1 : Int) = ((ms[i] - 1 : Nat) : Int) by omega]
            exact ixN_nat (by rw [nats_length]; omega)
          walk_at "hs"
          refine ⟨_, _, fs.set (ms[i] - 1) (0 :: ms)[ab], rfl, by rw [List.length_set]; exact hfs, b6.mutF nR, p6.mut (.inl rfl), keepM hOR eO6, by rw [upd_same, nats_set], fun i' x hlt hx' => ?_⟩
          by_cases e : i' = i
          · subst e
            rw [hx] at hx'
            cases hx'
            exact ⟨ab, _, hab, hy, by rw [List.getElem?_set_self (by omega)]⟩
          · obtain ⟨j, y, hj, hy', hf⟩ := hd i' x (by omega) hx'
            refine ⟨j, y, hj, hy', ?_⟩
            have hne : ms[i] - 1 ≠ x - 1 := fun e2 => by
              have hi2 := (List.getElem?_eq_some_iff.mp hx').1
              have hxm' := (List.mem_range'_1.mp (hperm.mem_iff.mp (List.mem_of_getElem? hx')))
              have nd : ms.Nodup := hperm.nodup_iff.mpr (List.nodup_range' ..)
              have : ms[i'] = ms[i] := by
                have e3 : ms[i'] = x := (List.getElem?_eq_some_iff.mp hx').2
                omega
              exact e ((List.getElem_inj nd).mp this)
            rw [List.getElem?_set_ne hne]
            exact hf
    · rintro σ' H3 ⟨x5, x6, fs, rfl, hfs, b3, p3, eO2, eR, hd⟩
      have htree : IsTree fs := Drawn.tree ⟨ms, by rw [hfs]; exact hperm, fun i x hx => hd i x (by have := (List.getElem?_eq_some_iff.mp hx).1; omega) hx⟩ (by omega) (by omega)
      walk_at "hs"
      intro D hD
      exact q D fs _ htree hfs (b3.new hD) ((p3.newH hD).weak fun a h => .inr (.inr h)) (b3.freeB (p3.ne hD) hD) upd_same
end
set_option maxRecDepth 100000
set_option maxHeartbeats 1000000
open PySem PySem.Spec L2


theorem sc__comes_to_head : FnScope ["hung", "block", "place", "steps"] ["hung", "block"] (defScope s__comes_to_head) := ⟨rfl, rfl, rfl, by decide +kernel, rfl, by decide +kernel, by decide +kernel⟩
section
variable {P : Program} {w : World} {K : PySem.W.Frag} {mg : Str → Option Value} {base : Heap} {Z : Ad}

def spComes (K : PySem.W.Frag) : Sp := fun vs H Q _ => ∃ (t : Addr) (hs : List Nat) (k : Nat), vs = [.ref t, .int k] ∧ SqT K H t (nats hs) ∧ (∀ x ∈ hs, x ≤ hs.length) ∧ k ≤ hs.length ∧ Q (.bl (decide (upN hs hs.length k = 0))) H
theorem ok_comes {f : Addr} {fd : FuncData} (F : Fun K "_comes_to_head" "_comes_to_head" s__comes_to_head f fd) (B : Bl Z mg) : FnOk P w K mg base CX0 1 f fd ["hung", "block"] (spComes K) := by
  refine F.ok sc__comes_to_head (fun vs H Q E h => ?_) (fun cdv A outer s H vs Q E hr h => ?_)
  · obtain ⟨t, hs, k, rfl, _⟩ := h
    rfl
  · obtain ⟨t, hs, k, rfl, ht, hle, hk, q⟩ := h
    refine ⟨_, (pss_cons (ps_set (i := 2) sc__comes_to_head.nd rfl (Or.inl rfl) (pv 1))
 (pss_cons (ps_set (i := 3) sc__comes_to_head.nd rfl (Or.inl rfl) pe_int)
 (pss_cons (ps_while PassesOwn.never (PW.pt (pw_and (pt_cmpR op_ne (pv 2) pe_int (nomark _)) (pw_and1 (pt_cmpR op_lt (pv 3) (pe_callB (call_lenK (K := K) rfl) (by rfl) B.b_len PySem.boot_len (pa_cons (pv 0) pa_nil)) (nomark _))))) (pss_cons (ps_set (i := 2) sc__comes_to_head.nd rfl (Or.inl rfl) (pe_ix (ix_tupK (K := K) rfl) (pv 0) (pe_op op_sub (pv 2) pe_int) (fun _ _ => rfl)))
 (pss_one (ps_aug (i := 3) sc__comes_to_head.nd rfl (Or.inl rfl) pe_int ip_add))))
 (pss_one (ps_ret (pe_cmpR op_eq (pv 2) pe_int (nomark _))))))), ?_⟩
    walk_at "h0"
    refine ⟨fun m σ' H' => ∃ st : Nat, st + m = hs.length ∧ σ' = [some (.ref t), some (.int k), some (.int (upN hs st k : Nat)), some (.int st)] ∧ H' = H, ⟨hs.length, 0, Nat.zero_add _, rfl, rfl⟩, ?_⟩
    rintro m σ' H' ⟨st, hst, rfl, rfl⟩
    walk_at "hs"
    refine x_isd (fun c => ?_) (fun c => ?_)
    · walk_at "hs"
      rw [nats_length]
      refine x_isd (fun c2 => ?_) (fun c2 => ?_)
      · have hup := upN_le hle st k hk
        have hat : atI (nats hs) ((upN hs st k : Nat) - 1 : Int) = some (.int (upN hs (st + 1) k : Nat)) := by
          rw [show ((upN hs st k : Nat) - 1 : Int) = ((upN hs st k - 1 : Nat) : Int) by omega]
          refine nats_at ?_
          rw [upN_succ]
          have h1 : upN hs st k - 1 < hs.length := by omega
          rw [List.getElem?_eq_getElem h1]
          have := up_at (hs := hs) (k := upN hs st k) (by omega) (List.getElem?_eq_getElem h1)
          rw [this]
        walk_at "hs"
        refine ⟨fun σ' H2 => σ' = [some (.ref t), some (.int k), some (.int (upN hs (st + 1) k : Nat)), some (.int ((st + 1 : Nat) : Int))] ∧ H2 = H', fun σ' H2 hN => ⟨m - 1, by omega, st + 1, by omega, hN.1, hN.2⟩, ?_⟩
        walk_at "hs"
        exact ⟨rfl, rfl⟩
      · walk_at "hs"
        have e : st = hs.length := by omega
        rw [← e] at q
        have e2 : decide (((upN hs st k : Nat) : Int) = 0) = decide (upN hs st k = 0) := by
          rw [decide_eq_decide]
          omega
        rw [e2]
        exact q
    · walk_at "hs"
      have h0 : upN hs st k = 0 := by omega
      have h1 := upN_more (j := hs.length) h0 (by omega)
      rw [h1] at q
      rw [h0]
      exact q
/-- what the law tells as due -/
def dueV : Due → V
  | .hung => .str "hung"
  | .block k => .int k
  | .ring _ => .non
  | .ok => .non
/-- a value that tells what is due -/
def TellsDue (H : Hp) (v : V) : Due → Prop
  | .hung => v = .str "hung"
  | .block k => v = .int (k : Nat)
  | .ring k => ∃ a, v = .ref a ∧ H a = some (.tup [.str "ring", .int (k : Nat)])
  | .ok => v = .non
/-- what is due for a value: of a tuple by its items, else hung -/
def DueV (H : Hp) (x : V) (d : Due) : Prop := (∃ a xs, x = .ref a ∧ H a = some (.tup xs) ∧ DueIs xs d ∧ ∀ y ∈ xs, Kn H y) ∨ ((∀ a xs, x = .ref a → H a ≠ some (.tup xs)) ∧ Kn H x ∧ d = .hung)
def spDue : Sp := fun vs H Q _ => ∃ (x : V), vs = [x] ∧ ((∃ a xs, x = .ref a ∧ H a = some (.tup xs) ∧ ∀ y ∈ xs, Kn H y) ∨ ((∀ a xs, x = .ref a → H a ≠ some (.tup xs)) ∧ Kn H x)) ∧ ∀ (d : Due) (v : V) H', Same H H' → DueV H x d → TellsDue H' v d → Q v H'
theorem kn_not {x : V} {H : Hp} {Q : VK} (h : ∀ a xs, x = .ref a → H a ≠ some (.tup xs)) (k : Kn H x) (q : Q (.bl false) H) : rIsi K [x, .ty "tuple"] H Q := by
  cases x with
  | non => exact isi_non_tuple q
  | bl b => exact isi_bl_tuple q
  | int b => exact isi_int_tuple q
  | str b => exact isi_str_tuple q
  | ref a =>
    rcases k with ⟨xs, e⟩ | ⟨xs, e⟩ | ⟨xs, e⟩
    · exact isi_lst_tuple e q
    · exact (h a xs rfl e).elim
    · exact isi_dK_tuple e q
  | _ => exact k.elim
end
set_option maxRecDepth 100000
set_option maxHeartbeats 1000000
open PySem PySem.Spec L2


theorem sc_BadTree___init__ : FnScope ["self", "part"] ["self", "part"] (defScope s_BadTree___init__) := ⟨rfl, rfl, rfl, by decide +kernel, rfl, by decide +kernel, by decide +kernel⟩
theorem sc_Tree___init__ : FnScope ["self", "hung", "block", "place"] ["self", "hung"] (defScope s_Tree___init__) := ⟨rfl, rfl, rfl, by decide +kernel, rfl, by decide +kernel, by decide +kernel⟩
section
variable {P : Program} {w : World} {K : PySem.W.Frag} {mg : Str → Option Value} {base : Heap} {Z : Ad}

theorem ok_bad {f : Addr} {fd : FuncData} (F : Fun K "__init__" "BadTree.__init__" s_BadTree___init__ f fd) (X_BadTree : ExcF K Z.a_BadTree f "part") : FnOk P w K mg base CX0 1 f fd ["self", "part"] (spField Z.a_BadTree "part") := by
  refine F.ok sc_BadTree___init__ (fun vs H Q E h => ?_) (fun cdv A outer s H vs Q E hr h => ?_)
  · obtain ⟨a, v, rfl, _⟩ := h
    rfl
  · obtain ⟨a, v, rfl, ha, q⟩ := h
    refine ⟨_, (pss_one (ps_ost (pv 0) (pv 1))), ?_⟩
    walk_at "h0"
    exact ⟨a, _, rfl, X_BadTree.T, X_BadTree.n, .inl ⟨ha, q⟩⟩
def spTree (Z : Ad) : Sp := fun vs H Q E => ∃ (x dx : Addr) (h : V), vs = [.ref x, h] ∧ H x = some (.ins Z.a_Tree dx []) ∧ ((∃ a xs, h = .ref a ∧ H a = some (.tup xs) ∧ ∀ y ∈ xs, Kn H y) ∨ ((∀ a xs, h = .ref a → H a ≠ some (.tup xs)) ∧ Kn H h)) ∧
  (∀ H', DueV H h .ok → But x H H' → H' x = some (.ins Z.a_Tree dx [("hung", h)]) → Q .non H') ∧ (∀ (d : Due) (e : Addr) (v : V) H', d ≠ .ok → DueV H h d → TellsDue H' v d → Same H H' → H' e = some (.xd [("part", v)]) → E (.ref Z.a_BadTree) (some e) H')
theorem ok_tree {f : Addr} {fd : FuncData} (F : Fun K "__init__" "Tree.__init__" s_Tree___init__ f fd) (B : Bl Z mg) (T : Cls K Z.a_Tree) (N : NoAttr K Z.a_Tree "hung") {f_is_within : Addr} {fd_is_within : FuncData} (C_is_within : Cal K mg "is_within" f_is_within fd_is_within ["least", "most", "thing"]) (G_is_within : FnOk P w K mg base CX0 1 f_is_within fd_is_within ["least", "most", "thing"] spWithin) {f__comes_to_head : Addr} {fd__comes_to_head : FuncData} (C__comes_to_head : Cal K mg "_comes_to_head" f__comes_to_head fd__comes_to_head ["hung", "block"]) (G__comes_to_head : FnOk P w K mg base CX0 1 f__comes_to_head fd__comes_to_head ["hung", "block"] (spComes K))
    {f_BadTree___init__ : Addr} {fd_BadTree___init__ : FuncData} (C_BadTree___init__ : CalM K f_BadTree___init__ fd_BadTree___init__ ["self", "part"]) (G_BadTree___init__ : FnOk P w K mg base CX0 1 f_BadTree___init__ fd_BadTree___init__ ["self", "part"] (spField Z.a_BadTree "part")) (X_BadTree : ExcF K Z.a_BadTree f_BadTree___init__ "part") : FnOk P w K mg base (L2.CX P w) 3 f fd ["self", "hung"] (spTree Z) := by
  refine F.okX sc_Tree___init__ (fun vs H Q E h => ?_) (fun cdv A outer s H vs Q E hr h => ?_)
  · obtain ⟨x, dx, h, rfl, _⟩ := h
    rfl
  · obtain ⟨x, dx, hv, rfl, hx, hk, q, qe⟩ := h
    refine ⟨_, (pss_cons (ps_if (PW.pt (pw_or (pt_not (pt_val (pe_callB (call_isiK' (K := K) rfl) (by rfl) B.b_isinstance (by decide +kernel) (pa_cons (pv 1) (pa_cons (pe_bltn (v := .ty "tuple") (by rfl) B.b_tuple (by decide +kernel) rfl) pa_nil))))) (pw_or1 (pt_not (pt_chain op_le op_le pe_int (pe_callB (call_lenK (K := K) rfl) (by rfl) B.b_len PySem.boot_len (pa_cons (pv 1) pa_nil)) (pe_glob (v := .int (40)) rfl B.c_MOST_BLOCKS ⟨_, rfl⟩)))))) (pss_one (ps_raise rfl (takes_of rfl rfl rfl rfl) (pmk_oex X_BadTree.T X_BadTree.i X_BadTree.t G_BadTree___init__ (hr.mono (by first | decide | omega)) C_BadTree___init__.b .nil pass0 (by rfl) B.k_BadTree (pa_cons pe_str pa_nil)))) pss_nil)
 (pss_cons (ps_for (passes_of rfl) rfl (pi_enumTK (K := K) rfl rfl (by rfl) B.b_enumerate (by decide) (by decide) (pa_cons (pv 1) pa_nil)) (pg_tup rfl (pgs_cons (pg_name (i := 2) sc_Tree___init__.nd rfl (Or.inl rfl)) (pgs_cons (pg_name (i := 3) sc_Tree___init__.nd rfl (Or.inl rfl)) pgs_nil))) (pss_one (ps_if (PW.pt (pw_or (pt_not (pt_val (pe_call G_is_within (hr.mono (by first | decide | omega)) (by rfl) C_is_within.g C_is_within.k C_is_within.b .nil pass0 (pa_cons pe_int (pa_cons (pe_callB (call_lenK (K := K) rfl) (by rfl) B.b_len PySem.boot_len (pa_cons (pv 1) pa_nil)) (pa_cons (pv 3) pa_nil)))))) (pw_or1 (pt_cmpR op_eq (pv 3) (pv 2) (nomark _))))) (pss_one (ps_raise rfl (takes_of rfl rfl rfl rfl) (pmk_oex X_BadTree.T X_BadTree.i X_BadTree.t G_BadTree___init__ (hr.mono (by first | decide | omega)) C_BadTree___init__.b .nil pass0 (by rfl) B.k_BadTree (pa_cons (pv 2) pa_nil)))) pss_nil)))
 (pss_cons (ps_for (passes_of rfl) rfl (pi_range2 rfl B.b_range (pa_cons pe_int (pa_cons (pe_op op_add (pe_callB (call_lenK (K := K) rfl) (by rfl) B.b_len PySem.boot_len (pa_cons (pv 1) pa_nil)) pe_int) pa_nil))) (pg_name (i := 2) sc_Tree___init__.nd rfl (Or.inl rfl)) (pss_one (ps_if (pt_not (pt_val (pe_call G__comes_to_head (hr.mono (by first | decide | omega)) (by rfl) C__comes_to_head.g C__comes_to_head.k C__comes_to_head.b .nil pass0 (pa_cons (pv 1) (pa_cons (pv 2) pa_nil))))) (pss_one (ps_raise rfl (takes_of rfl rfl rfl rfl) (pmk_oex X_BadTree.T X_BadTree.i X_BadTree.t G_BadTree___init__ (hr.mono (by first | decide | omega)) C_BadTree___init__.b .nil pass0 (by rfl) B.k_BadTree (pa_cons (pe_tup (pa_cons pe_str (pa_cons (pv 2) pa_nil))) pa_nil)))) pss_nil)))
 (pss_one (ps_fld (pv 0) (pv 1) rfl))))), ?_⟩
    have raised : ∀ (d : Due) (v : V) H1, d ≠ .ok → DueV H hv d → Same H H1 → (∀ H2, Same H1 H2 → TellsDue H2 v d) → [v].length ≤ 1000 ∧ ∀ a, H1 a = none → spField Z.a_BadTree "part" (.ref a :: ([v] ++ [])) (upd H1 a (exo a Z.a_BadTree none)) (fun v H2 => v = .non ∧ ∃ (d : Addr) (fs : List (Str × V)), H2 a = some (exo a Z.a_BadTree (some d)) ∧ H2 d = some (exd d fs) ∧ H1 d = none ∧ E (.ref Z.a_BadTree) (some d) (upd (del H2 a) d (.xd fs))) (fun _ _ _ => False) := fun d v H1 nd hd s1 ht =>
      mk_field fun e H' s2 _ he => qe d e v H' nd hd (ht H' s2) (s1.trans s2) he
    rcases hk with ⟨a, xs, rfl, ha, hk⟩ | ⟨hn, hk⟩
    · have qq : ∀ (d : Due) (v : V) H1, d ≠ .ok → DueIs xs d → Same H H1 → (∀ H2, Same H1 H2 → TellsDue H2 v d) → _ := fun d v H1 nd hd => raised d v H1 nd (.inl ⟨a, xs, rfl, ha, hd, hk⟩)
      have nxa : x ≠ a := fun e => by
        rw [e, ha] at hx
        cases hx
      walk_at "h0"
      refine x_isd (fun c1 => ?_) (fun c1 => ?_)
      · walk_at "hs"
        refine x_isnd (fun c2 => ?_) (fun c2 => ?_)
        · walk_at "hs"
          exact qq .hung _ H (fun e => by cases e) (.hung (by omega)) (Same.refl _) fun _ _ => rfl
        · walk_at "hs"
          refine x_ent1 (.of ha) ?_
          refine lp_enumT (K := K) (xs := xs) (fun i σ' H' => (∃ x2 x3, σ' = [some (.ref x), some (.ref a), x2, x3]) ∧ Same H H' ∧ ∀ j y, j < i → xs[j]? = some y → ¬ badV xs.length j y)
            ⟨⟨_, _, rfl⟩, Same.refl _, fun j y h => absurd h (Nat.not_lt_zero _)⟩ (fun i σ' H' _ h => .of (h.2.1 _ _ ha)) ?_ ?_
          · rintro i xi σ' H' T hxi ⟨⟨x2, x3, rfl⟩, s1, hgood⟩ hT
            have ha1 := s1 _ _ ha
            have kx := (hk _ (List.mem_of_getElem? hxi)).same (same_new (o := .tup [.int (1 + (i : Int)), xi]) s1 hT)
            have hi := (List.getElem?_eq_some_iff.mp hxi).1
            have bad : badV xs.length i xi → _ := fun b => qq (.block (i + 1)) (.int (1 + (i : Int))) (upd H' T (.tup [.int (1 + (i : Int)), xi])) (fun e => by cases e) (.block (by omega) (by omega) hgood hxi b) (same_new s1 hT) (fun _ _ => by
              show V.int (1 + (i : Int)) = V.int ((i + 1 : Nat) : Int)
              congr 1
              omega)
            walk_at "hs"
            refine ⟨_, _, _, rfl, kx, ?_⟩
            walk_at "hs"
            cases hn : numV 0 xs.length xi with
            | false =>
              walk_at "hs"
              exact bad (.inl hn)
            | true =>
              obtain ⟨z, rfl, z0, z1⟩ := num_int hn
              walk_at "hs"
              refine x_isd (fun c => ?_) (fun c => ?_)
              · walk_at "hs"
                exact bad (.inr (by rw [c]; congr 1; omega))
              · walk_at "hs"
                refine ⟨⟨_, _, rfl⟩, same_new s1 hT, fun j y hj hy => ?_⟩
                by_cases e : j = i
                · subst e
                  rw [hxi] at hy
                  cases hy
                  rintro (h | h)
                  · rw [hn] at h
                    cases h
                  · injection h with h
                    exact c (by rw [h]; omega)
                · exact hgood j y (by omega) hy
          · rintro σ' H' ⟨⟨x2, x3, rfl⟩, s1, hgood⟩
            have ha1 := s1 _ _ ha
            have hgood' : ∀ (j : Nat) y, xs[j]? = some y → ¬ badV xs.length j y := fun j y hy => hgood j y (by have := (List.getElem?_eq_some_iff.mp hy).1; omega) hy
            obtain ⟨hs, rfl, hle⟩ := good_nats xs.length fun j y hy => by
              cases hn : numV 0 xs.length y with
              | true => rfl
              | false => exact (hgood' j y hy (.inl hn)).elim
            have hlen := nats_length hs
            rw [hlen] at hle
            walk_at "hs"
            refine ⟨1, ((nats hs).length : Int) + 1, rfl, ⟨by omega, by omega, by omega, by omega⟩, ?_⟩
            refine lp_range (lo := 1) (n := Int.toNat (((nats hs).length : Int) + 1 - 1)) (fun i σ' H2 => (∃ x2 x3, σ' = [some (.ref x), some (.ref a), x2, x3]) ∧ Same H H2 ∧ ∀ j, 1 ≤ j → j < i + 1 → upN hs hs.length j = 0)
              ⟨⟨_, _, rfl⟩, s1, fun j h1 h2 => by omega⟩ ?_ ?_
            · rintro i σ' H2 hi ⟨⟨x2, x3, rfl⟩, s2, hz⟩
              have ha2 := s2 _ _ ha
              walk_at "hs"
              refine ⟨a, hs, i + 1, by rw [show 1 + (i : Int) = ((i + 1 : Nat) : Int) by omega]; rfl, .of ha2, hle, by omega, ?_⟩
              walk_at "hs"
              refine x_isnd (fun c => ?_) (fun c => ?_)
              · walk_at "hs"
                intro p hp
                walk_at "hs"
                refine qq (.ring (i + 1)) _ _ (fun e => by cases e) (.ring (by omega) (by omega) rfl hgood' (fun j h1 h2 => hz j h1 h2) (by omega) (by omega) c) (same_new s2 hp) fun H3 s3 => ⟨p, rfl, ?_⟩
                rw [s3 _ _ upd_same, show (1 + (i : Int)) = ((i + 1 : Nat) : Int) by omega]
              · walk_at "hs"
                refine ⟨⟨_, _, rfl⟩, s2, fun j h1 h2 => ?_⟩
                by_cases e : j = i + 1
                · rw [e]
                  exact c
                · exact hz j h1 (by omega)
            · rintro σ' H2 ⟨⟨x2, x3, rfl⟩, s2, hz⟩
              have hx2 := s2 _ _ hx
              walk_at "hs"
              refine ⟨x, _, dx, _, rfl, hx2, T, N, by decide, ?_⟩
              walk_at "hs"
              refine q _ (.inl ⟨a, nats hs, rfl, ha, .ok ⟨by omega, by omega, hle, fun k hk => by
                by_cases h0 : k = 0
                · rw [h0]
                  exact upN_zero hs _
                · exact hz k (by omega) (by omega)⟩ rfl hgood', hk⟩) (But.mut (.of s2)) upd_same
      · walk_at "hs"
        exact qq .hung _ H (fun e => by cases e) (.hung (by omega)) (Same.refl _) fun _ _ => rfl
    · walk_at "h0"
      refine kn_not hn hk ?_
      walk_at "hs"
      exact raised .hung _ H (fun e => by cases e) (.inr ⟨hn, hk, rfl⟩) (Same.refl _) fun _ _ => rfl
end
set_option maxRecDepth 100000
set_option maxHeartbeats 1000000
open PySem PySem.Spec L2


theorem sc_Tree___eq__ : FnScope ["self", "other"] ["self", "other"] (defScope s_Tree___eq__) := ⟨rfl, rfl, rfl, by decide +kernel, rfl, by decide +kernel, by decide +kernel⟩
section
variable {P : Program} {w : World} {K : PySem.W.Frag} {mg : Str → Option Value} {base : Heap} {Z : Ad}

/-- a tree that has been made -/
def TreeAt (Z : Ad) (H : Hp) (x : Addr) (hs : List Nat) : Prop := ∃ dx t, H x = some (.ins Z.a_Tree dx [("hung", .ref t)]) ∧ H t = some (.tup (nats hs))
theorem TreeAt.same {H H' : Hp} {x : Addr} {hs : List Nat} (s : Same H H') (h : TreeAt Z H x hs) : TreeAt Z H' x hs := by
  obtain ⟨dx, t, h1, h2⟩ := h
  exact ⟨dx, t, s _ _ h1, s _ _ h2⟩
def spEqT (Z : Ad) : Sp := fun vs H Q _ => ∃ (a b : Addr) (hs : List Nat), vs = [.ref a, .ref b] ∧ TreeAt Z H a hs ∧ ((∃ gs, TreeAt Z H b gs ∧ Q (.bl (decide (hs = gs))) H) ∨ ((∃ xs, H b = some (.tup xs)) ∧ Q (.bl false) H))
theorem ok_eqT {f : Addr} {fd : FuncData} (F : Fun K "__eq__" "Tree.__eq__" s_Tree___eq__ f fd) (B : Bl Z mg) (T : IsC K Z.a_Tree) (N : NoAttr K Z.a_Tree "hung") : FnOk P w K mg base CX0 1 f fd ["self", "other"] (spEqT Z) := by
  refine F.ok sc_Tree___eq__ (fun vs H Q E h => ?_) (fun cdv A outer s H vs Q E hr h => ?_)
  · obtain ⟨a, b, hs, rfl, _⟩ := h
    rfl
  · obtain ⟨a, b, hs, rfl, ⟨dx, t, hx, ht⟩, h⟩ := h
    refine ⟨_, (pss_one (ps_ret (pe_and (pe_callB (call_isiK' (K := K) rfl) (by rfl) B.b_isinstance (by decide +kernel) (pa_cons (pv 1) (pa_cons (pe_glob (v := .ref Z.a_Tree) rfl B.k_Tree rfl) pa_nil))) (pe_one (pe_cmpR (op_eqDK (K := K) rfl hr.units) (pe_fldK (K := K) rfl (pv 0) rfl) (pe_fldK (K := K) rfl (pv 1) rfl) (nomark _)))))), ?_⟩
    walk_at "h0"
    rcases h with ⟨gs, ⟨dy, u, hy, hu⟩, q⟩ | ⟨⟨xs, hb⟩, q⟩
    · refine isi_own T hy ?_
      walk_at "hs"
      refine ⟨a, _, dx, _, _, rfl, hx, T.cl, N, rfl, ?_⟩
      walk_at "hs"
      refine ⟨b, _, dy, _, _, rfl, hy, T.cl, N, rfl, ?_⟩
      exact x_eqTup (.of ht) (.of hu) q
    · refine isi_tupOwn T hb ?_
      walk_at "hs"
      exact q
end
set_option maxRecDepth 100000
set_option maxHeartbeats 1000000
open PySem PySem.Spec L2


section
variable {P : Program} {w : World} {K : PySem.W.Frag} {mg : Str → Option Value} {base : Heap} {Z : Ad}

def spOdd : Sp := fun vs H Q _ => ∃ (p : Addr) (n : Nat) (F : Addr → Prop), vs = [.ref p, .int n] ∧ PoolAt H p F ∧ ∀ v H', Kn H' v → v ≠ .ref p → But p H H' → PoolAt H' p F → Q v H'
/-! the law's own call of Tree, caught -/
end
set_option maxRecDepth 100000
set_option maxHeartbeats 1000000
open PySem PySem.Spec L2


section
variable {P : Program} {w : World} {K : PySem.W.Frag} {mg : Str → Option Value} {base : Heap} {Z : Ad}

/-- any tuple of what is known, or another known thing -/
def Thing (H : Hp) (x : V) : Prop := (∃ a xs, x = .ref a ∧ H a = some (.tup xs) ∧ ∀ y ∈ xs, Kn H y) ∨ ((∀ a xs, x = .ref a → H a ≠ some (.tup xs)) ∧ Kn H x)
theorem Thing.same {H H' : Hp} {x : V} (s : Same H H') (h : Thing H x) : Thing H' x := by
  rcases h with ⟨a, xs, rfl, ha, hk⟩ | ⟨hn, hk⟩
  · exact .inl ⟨a, xs, rfl, s _ _ ha, fun y hy => (hk y hy).same s⟩
  · refine .inr ⟨fun a xs e ha => ?_, hk.same s⟩
    subst e
    rcases hk with ⟨ys, e⟩ | ⟨ys, e⟩ | ⟨ys, e⟩
    · have := (s _ _ e).symm.trans ha
      cases this
    · exact hn a ys rfl e
    · have := (s _ _ e).symm.trans ha
      cases this
theorem Thing.back {H H' : Hp} {x : V} {d : Due} (h : Thing H x) (s : Same H H') (hd : DueV H' x d) : DueV H x d := by
  rcases h with ⟨a, xs, rfl, ha, hk⟩ | ⟨hn, hk⟩
  · rcases hd with ⟨b, ys, e, hb, hi, _⟩ | ⟨hn, _, _⟩
    · cases e
      have := (s _ _ ha).symm.trans hb
      cases this
      exact .inl ⟨a, xs, rfl, ha, hi, hk⟩
    · exact (hn a xs rfl (s _ _ ha)).elim
  · rcases hd with ⟨b, ys, rfl, hb, hi, _⟩ | ⟨_, _, e⟩
    · rcases hk with ⟨zs, e⟩ | ⟨zs, e⟩ | ⟨zs, e⟩
      · have := (s _ _ e).symm.trans hb
        cases this
      · exact (hn b zs rfl e).elim
      · have := (s _ _ e).symm.trans hb
        cases this
    · exact .inr ⟨hn, hk, e⟩
def spWord : Sp := fun vs H Q _ => ∃ (x : V), vs = [x] ∧ Thing H x ∧ ∀ (d : Due) (v : V) H', Same H H' → DueV H x d → TellsDue H' v d → Q v H'
structure WordX (K : PySem.W.Frag) (Z : Ad) : Prop where
  e : L2.ExcC K Z.a_BadTree
  f : XfC K Z.a_BadTree
  n : PySem.W.findIn K (.ref Z.a_BadTree) "part" = some none
  k : PySem.W.kitOne K (.ref Z.a_BadTree) (.ref Z.a_VoteError) = some true
  m : PySem.W.exmOne K (.ref Z.a_BadTree) (.ref Z.a_BadTree) = some true
end
set_option maxRecDepth 100000
set_option maxHeartbeats 4000000
open PySem PySem.Spec L2


theorem sc_law : FnScope ["_law_script", "_law_pool_here", "_law_turn", "_law_view_here", "_law_many", "_law_told", "_law_hung_here", "_law_other", "_law_change", "_law_block", "_law_place", "_law_apart"] ["_law_script"] (defScope s_law) := ⟨rfl, rfl, rfl, by decide +kernel, rfl, by decide +kernel, by decide +kernel⟩
section
variable {P : Program} {w : World} {K : PySem.W.Frag} {mg : Str → Option Value} {base : Heap} {Z : Ad}

theorem TellsDue.same {H H' : Hp} {v : V} {d : Due} (s : Same H H') (h : TellsDue H v d) : TellsDue H' v d := by
  cases d with
  | ring k =>
    obtain ⟨a, rfl, ha⟩ := h
    exact ⟨a, rfl, s _ _ ha⟩
  | _ => exact h
theorem TellsDue.al {H : Hp} {v u : V} {d : Due} (h : TellsDue H v d) (h' : TellsDue H u d) : Al K H 1 v u := by
  cases d with
  | ring k =>
    obtain ⟨a, rfl, ha⟩ := h
    obtain ⟨b, rfl, hb⟩ := h'
    exact Al.tups ha hb (by show 2 ≤ 1000; decide) fun z hz => by
      simp only [List.mem_cons, List.not_mem_nil, or_false] at hz
      rcases hz with rfl | rfl <;> rfl
  | hung =>
    cases h
    cases h'
    exact Al.sca rfl
  | block k =>
    cases h
    cases h'
    exact Al.sca rfl
  | ok =>
    cases h
    cases h'
    exact Al.sca rfl
theorem DueV.det {H : Hp} {x : V} {d e : Due} (h : DueV H x d) (h' : DueV H x e) : d = e := by
  rcases h with ⟨a, xs, rfl, ha, hi, _⟩ | ⟨hn, _, rfl⟩
  · rcases h' with ⟨b, ys, e, hb, hj, _⟩ | ⟨hn, _, _⟩
    · cases e
      have := ha.symm.trans hb
      cases this
      exact hi.det hj
    · exact (hn a xs rfl ha).elim
  · rcases h' with ⟨b, ys, rfl, hb, _, _⟩ | ⟨_, _, rfl⟩
    · exact (hn b ys rfl hb).elim
    · rfl
theorem tree_ok {hs : List Nat} (t : IsTree hs) : DueIs (nats hs) .ok := by
  refine .ok t rfl fun j y hy => ?_
  obtain ⟨x, hx, rfl⟩ : ∃ x : Nat, hs[j]? = some x ∧ y = .int x := by
    unfold nats at hy
    rw [List.getElem?_map] at hy
    cases e : hs[j]? with
    | none =>
      rw [e] at hy
      cases hy
    | some x =>
      rw [e] at hy
      exact ⟨x, rfl, (Option.some.inj hy).symm⟩
  have hle := t.le x (List.mem_of_getElem? hx)
  have hj := (List.getElem?_eq_some_iff.mp hx).1
  rw [nats_length]
  rintro (h | h)
  · rw [numT (by omega)] at h
    have := of_decide_eq_false h
    omega
  · injection h with h
    have e : x = j + 1 := by omega
    subst e
    have u : up hs (j + 1) = j + 1 := up_at (by omega) (by rw [Nat.add_sub_cancel]; exact hx)
    have un : ∀ n, upN hs n (j + 1) = j + 1 := fun n => by
      induction n with
      | zero => rfl
      | succ n ih =>
        show upN hs n (up hs (j + 1)) = j + 1
        rw [u]
        exact ih
    have := t.comes (j + 1) (by omega)
    rw [un] at this
    omega
theorem make_tree {H : Hp} {Q : VK} {a : Addr} {hs : List Nat} (t : IsTree hs) (ha : H a = some (.tup (nats hs))) (q : ∀ m H', H m = none → Same H H' → TreeAt Z H' m hs → Q (.ref m) H') :
    ∀ x dx, H x = none → H dx = none → dx ≠ x → spTree Z (.ref x :: ([.ref a] ++ [])) (upd (upd H dx (.own x)) x (.ins Z.a_Tree dx [])) (fun v H2 => v = .non ∧ Q (.ref x) H2) (fun _ _ _ => False) := by
  intro m dm hm hdm ne
  have hm2 : upd H dm (.own m) m = none := by
    rw [upd_ne (Ne.symm ne)]
    exact hm
  have s0 : Same H (upd (upd H dm (.own m)) m (.ins Z.a_Tree dm [])) := same_new (same_new (Same.refl H) hdm) hm2
  have hk : ∀ y ∈ nats hs, Kn H y := fun y hy => by
    obtain ⟨n, _, rfl⟩ := List.mem_map.mp hy
    exact True.intro
  have hx : Thing H (.ref a) := .inl ⟨a, _, rfl, ha, hk⟩
  have due : DueV H (.ref a) .ok := .inl ⟨a, _, rfl, ha, tree_ok t, hk⟩
  refine ⟨m, dm, .ref a, rfl, upd_same, hx.same s0, fun H' hd b1 hm1 => ⟨rfl, ?_⟩, fun d e v H' nd hd ht s1 he => nd ((hx.back s0 hd).det due)⟩
  have s1 : Same H H' := fun b o e => b1 _ _ (ne_of_none e hm) (s0 _ _ e)
  exact q m H' hm s1 ⟨dm, a, hm1, s1 _ _ ha⟩
theorem eq_trees {H : Hp} {Q : VK} {a b : Addr} {hs gs : List Nat} (h1 : TreeAt Z H a hs) (h2 : TreeAt Z H b gs) (q : Q (.bl (decide (hs = gs))) H) : rOwn Z.a_Tree (spEqT Z) (.ref a) (.ref b) H Q := by
  obtain ⟨dx, t, ha, ht⟩ := id h1
  obtain ⟨dy, u, hb, hu⟩ := id h2
  exact ⟨a, b, dx, _, rfl, rfl, ha, .inl ⟨_, _, hb⟩, a, b, hs, rfl, h1, .inl ⟨gs, h2, _, rfl, q⟩⟩
theorem eq_treeTup {H : Hp} {Q : VK} {a b : Addr} {hs : List Nat} {xs : List V} (h1 : TreeAt Z H a hs) (h2 : H b = some (.tup xs)) (q : Q (.bl false) H) : rOwn Z.a_Tree (spEqT Z) (.ref a) (.ref b) H Q := by
  obtain ⟨dx, t, ha, ht⟩ := id h1
  exact ⟨a, b, dx, _, rfl, rfl, ha, .inr ⟨_, h2⟩, a, b, hs, rfl, h1, .inr ⟨⟨_, h2⟩, _, rfl, q⟩⟩
theorem Kn.setL {H : Hp} {L : Addr} {xs ys : List V} {v : V} (hL : H L = some (.lst xs)) (k : Kn H v) : Kn (upd H L (.lst ys)) v := by
  cases v with
  | ref a =>
    by_cases e : a = L
    · subst e
      exact .inl ⟨ys, upd_same⟩
    · rcases k with ⟨z, h⟩ | ⟨z, h⟩ | ⟨z, h⟩
      · exact .inl ⟨z, keepM e h⟩
      · exact .inr (.inl ⟨z, keepM e h⟩)
      · exact .inr (.inr ⟨z, keepM e h⟩)
  | _ => exact k
theorem x_tree {H : Hp} {Q : VK} {a : Addr} {hs : List Nat} {σ : L2.St} {i : Nat} (hv : σ[i]? = some (some (.ref a))) (t : IsTree hs) (ha : H a = some (.tup (nats hs))) (q : ∀ m H', H m = none → Same H H' → TreeAt Z H' m hs → Q (.ref m) H') :
    tMake Z.a_Tree (spTree Z) [] (fun _ _ _ => False) (tCons (tVar i) tNil) σ H Q := ⟨_, hv, make_tree t ha q⟩
theorem PoolAt.lst {H : Hp} {p : Addr} {F : Addr → Prop} (h : PoolAt H p F) : ∃ xs, H p = some (.lst xs) := by
  obtain ⟨⟨g, z, gs, ss, c, n, hp, _⟩, _⟩ := h
  exact ⟨_, hp⟩
theorem Kn.pool {H H' : Hp} {p : Addr} {F : Addr → Prop} {v : V} (hp : PoolAt H' p F) (b : But p H H') (k : Kn H v) : Kn H' v := by
  by_cases e : v = .ref p
  · subst e
    exact .inl hp.lst
  · exact k.but b e
theorem Thing.pool {H H' : Hp} {p : Addr} {F F' : Addr → Prop} {v : V} (hp : PoolAt H p F) (hp' : PoolAt H' p F') (b : But p H H') (k : Thing H v) : Thing H' v := by
  obtain ⟨zs, ep⟩ := hp.lst
  obtain ⟨ws, ep'⟩ := hp'.lst
  rcases k with ⟨a, xs, rfl, ha, hk⟩ | ⟨hn, hk⟩
  · refine .inl ⟨a, xs, rfl, b _ _ (fun e => ?_) ha, fun y hy => (hk y hy).pool hp' b⟩
    subst e
    rw [ha] at ep
    cases ep
  · refine .inr ⟨fun a xs e ha => ?_, hk.pool hp' b⟩
    subst e
    by_cases e : a = p
    · subst e
      rw [ha] at ep'
      cases ep'
    · rcases hk with ⟨ys, h⟩ | ⟨ys, h⟩ | ⟨ys, h⟩
      · have := (b _ _ e h).symm.trans ha
        cases this
      · exact hn a ys rfl h
      · have := (b _ _ e h).symm.trans ha
        cases this
theorem thing_lst {H : Hp} {a : Addr} {xs : List V} (h : H a = some (.lst xs)) : Thing H (.ref a) := by
  refine .inr ⟨fun b ys e hb => ?_, .inl ⟨_, h⟩⟩
  cases e
  rw [h] at hb
  cases hb
theorem thing_dK {H : Hp} {a : Addr} {xs : List (Key × V)} (h : H a = some (.dK xs)) : Thing H (.ref a) := by
  refine .inr ⟨fun b ys e hb => ?_, .inr (.inr ⟨_, h⟩)⟩
  cases e
  rw [h] at hb
  cases hb
theorem thing_nats {H : Hp} {a : Addr} {l : List Nat} (h : H a = some (.tup (nats l))) : Thing H (.ref a) := .inl ⟨a, _, rfl, h, fun y hy => by
  obtain ⟨n, _, rfl⟩ := List.mem_map.mp hy
  exact True.intro⟩
theorem pick_at {H0 H : Hp} {p M : Addr} {items : List V} {F : Addr → Prop} {Q : VK} {E : XK} (hp : PoolAt H0 p F) (s : Same H0 H) (hM : H M = some (.lst items)) (n : M ≠ p) (h0 : 0 < items.length) (h1 : items.length ≤ 1000) (ht : ∀ v ∈ items, Thing H v)
    (q : ∀ v H5, Thing H5 v → But p H0 H5 → PoolAt H5 p F → Q v H5) : spPick K ([.ref p, .ref M] ++ []) H Q E :=
  ⟨p, M, items, F, rfl, hp.same s, .of hM, n, h0, h1, fun v H5 hm b5 p5 => q v H5 ((ht v hm).pool (hp.same s) p5 b5) (fun b o nb e => b5 b o nb (s b o e)) p5⟩
def spLaw (K : PySem.W.Frag) : Sp := fun vs H Q _ => ∃ (a : Addr) (ns : List Int), vs = [.ref a] ∧ SqL K H a (ns.map V.int) ∧ ns.length ≤ 63 ∧ ∀ H', Q (.bl true) H'
end
set_option maxRecDepth 100000
set_option maxHeartbeats 1000000
open PySem PySem.Spec L2


theorem sc_is_block : FnScope ["tree", "thing"] ["tree", "thing"] (defScope s_is_block) := ⟨rfl, rfl, rfl, by decide +kernel, rfl, by decide +kernel, by decide +kernel⟩
theorem sc_is_place : FnScope ["tree", "thing"] ["tree", "thing"] (defScope s_is_place) := ⟨rfl, rfl, rfl, by decide +kernel, rfl, by decide +kernel, by decide +kernel⟩
theorem sc_place_of : FnScope ["tree", "block"] ["tree", "block"] (defScope s_place_of) := ⟨rfl, rfl, rfl, by decide +kernel, rfl, by decide +kernel, by decide +kernel⟩
theorem sc_parents : FnScope ["tree", "block", "above"] ["tree", "block"] (defScope s_parents) := ⟨rfl, rfl, rfl, by decide +kernel, rfl, by decide +kernel, by decide +kernel⟩
section
variable {P : Program} {w : World} {K : PySem.W.Frag} {mg : Str → Option Value} {base : Heap} {Z : Ad}
def spIsB (Z : Ad) (lo : Int) : Sp := fun vs H Q _ => ∃ (x : Addr) (hs : List Nat) (v : V), vs = [.ref x, v] ∧ TreeAt Z H x hs ∧ Kn H v ∧ Q (.bl (numV lo hs.length v)) H
theorem ok_isBlock {f : Addr} {fd : FuncData} (F : Fun K "is_block" "is_block" s_is_block f fd) (B : Bl Z mg) (T : Cls K Z.a_Tree) (N : NoAttr K Z.a_Tree "hung") {f_is_within : Addr} {fd_is_within : FuncData} (C_is_within : Cal K mg "is_within" f_is_within fd_is_within ["least", "most", "thing"]) (G_is_within : FnOk P w K mg base CX0 1 f_is_within fd_is_within ["least", "most", "thing"] spWithin) : FnOk P w K mg base CX0 2 f fd ["tree", "thing"] (spIsB Z 1) := by
  refine F.ok sc_is_block (fun vs H Q E h => ?_) (fun cdv A outer s H vs Q E hr h => ?_)
  · obtain ⟨x, hs, v, rfl, _⟩ := h
    rfl
  · obtain ⟨x, hs, v, rfl, ht, hk, q⟩ := h
    refine ⟨_, (pss_one (ps_ret (pe_call G_is_within (hr.mono (by first | decide | omega)) (by rfl) C_is_within.g C_is_within.k C_is_within.b .nil pass0 (pa_cons pe_int (pa_cons (pe_callB (call_lenK (K := K) rfl) (by rfl) B.b_len PySem.boot_len (pa_cons (pe_fldK (K := K) rfl (pv 0) rfl) pa_nil)) (pa_cons (pv 1) pa_nil)))))), ?_⟩
    walk_at "h0"
    obtain ⟨dx, t, h1, h2⟩ := ht
    have h3 : SqT K H t (nats hs) := .of h2
    refine ⟨x, _, dx, _, _, rfl, h1, T, N, rfl, ?_⟩
    walk_at "hs"
    rw [nats_length]
    exact ⟨v, 1, _, rfl, hk, q⟩
theorem ok_isPlace {f : Addr} {fd : FuncData} (F : Fun K "is_place" "is_place" s_is_place f fd) (B : Bl Z mg) (T : Cls K Z.a_Tree) (N : NoAttr K Z.a_Tree "hung") {f_is_within : Addr} {fd_is_within : FuncData} (C_is_within : Cal K mg "is_within" f_is_within fd_is_within ["least", "most", "thing"]) (G_is_within : FnOk P w K mg base CX0 1 f_is_within fd_is_within ["least", "most", "thing"] spWithin) : FnOk P w K mg base CX0 2 f fd ["tree", "thing"] (spIsB Z 0) := by
  refine F.ok sc_is_place (fun vs H Q E h => ?_) (fun cdv A outer s H vs Q E hr h => ?_)
  · obtain ⟨x, hs, v, rfl, _⟩ := h
    rfl
  · obtain ⟨x, hs, v, rfl, ht, hk, q⟩ := h
    refine ⟨_, (pss_one (ps_ret (pe_call G_is_within (hr.mono (by first | decide | omega)) (by rfl) C_is_within.g C_is_within.k C_is_within.b .nil pass0 (pa_cons pe_int (pa_cons (pe_callB (call_lenK (K := K) rfl) (by rfl) B.b_len PySem.boot_len (pa_cons (pe_fldK (K := K) rfl (pv 0) rfl) pa_nil)) (pa_cons (pv 1) pa_nil)))))), ?_⟩
    walk_at "h0"
    obtain ⟨dx, t, h1, h2⟩ := ht
    have h3 : SqT K H t (nats hs) := .of h2
    refine ⟨x, _, dx, _, _, rfl, h1, T, N, rfl, ?_⟩
    walk_at "hs"
    rw [nats_length]
    exact ⟨v, 0, _, rfl, hk, q⟩
theorem num_nat {lo : Int} {n k : Nat} (h1 : lo ≤ k) (h2 : k ≤ n) : numV lo n (.int k) = true := by
  rw [numT h1]
  exact decide_eq_true (by omega)
def spPlace (Z : Ad) : Sp := fun vs H Q _ => ∃ (x : Addr) (hs : List Nat) (k : Nat), vs = [.ref x, .int k] ∧ TreeAt Z H x hs ∧ 1 ≤ k ∧ k ≤ hs.length ∧ Q (.int (up hs k : Nat)) H
theorem ok_place {f : Addr} {fd : FuncData} (F : Fun K "place_of" "place_of" s_place_of f fd) (B : Bl Z mg) (T : Cls K Z.a_Tree) (N : NoAttr K Z.a_Tree "hung") {f_is_block : Addr} {fd_is_block : FuncData} (C_is_block : Cal K mg "is_block" f_is_block fd_is_block ["tree", "thing"]) (G_is_block : FnOk P w K mg base CX0 2 f_is_block fd_is_block ["tree", "thing"] (spIsB Z 1)) : FnOk P w K mg base CX0 3 f fd ["tree", "block"] (spPlace Z) := by
  refine F.ok sc_place_of (fun vs H Q E h => ?_) (fun cdv A outer s H vs Q E hr h => ?_)
  · obtain ⟨x, hs, k, rfl, _⟩ := h
    rfl
  · obtain ⟨x, hs, k, rfl, ht, h1, h2, q⟩ := h
    refine ⟨_, (pss_cons (ps_if (pt_not (pt_val (pe_call G_is_block (hr.mono (by first | decide | omega)) (by rfl) C_is_block.g C_is_block.k C_is_block.b .nil pass0 (pa_cons (pv 0) (pa_cons (pv 1) pa_nil))))) (pss_one ps_never) pss_nil)
 (pss_one (ps_ret (pe_ix (ix_tupK (K := K) rfl) (pe_fldK (K := K) rfl (pv 0) rfl) (pe_op op_sub (pv 1) pe_int) (fun _ _ => rfl))))), ?_⟩
    walk_at "h0"
    refine ⟨x, hs, _, rfl, ht, True.intro, ?_⟩
    rw [num_nat (by omega) h2]
    have hat : atI (nats hs) ((k : Int) - 1) = some (.int (up hs k : Nat)) := by
      rw [show (k : Int) - 1 = ((k - 1 : Nat) : Int) by omega]
      exact nats_at (up_get h1 h2)
    walk_at "hs"
    obtain ⟨dx, t, e1, e2⟩ := ht
    have e3 : SqT K H t (nats hs) := .of e2
    refine ⟨x, _, dx, _, _, rfl, e1, T, N, rfl, ?_⟩
    walk_at "hs"
    exact q
def spParents (Z : Ad) : Sp := fun vs H Q _ => ∃ (x : Addr) (hs : List Nat) (k : Nat), vs = [.ref x, .int k] ∧ TreeAt Z H x hs ∧ IsTree hs ∧ 1 ≤ k ∧ k ≤ hs.length ∧ ∀ D H', Same H H' → H D = none → H' D = some (.tup (nats (way hs k))) → Q (.ref D) H'
theorem ok_parents {f : Addr} {fd : FuncData} (F : Fun K "parents" "parents" s_parents f fd) (B : Bl Z mg) {f_place_of : Addr} {fd_place_of : FuncData} (C_place_of : Cal K mg "place_of" f_place_of fd_place_of ["tree", "block"]) (G_place_of : FnOk P w K mg base CX0 3 f_place_of fd_place_of ["tree", "block"] (spPlace Z)) : FnOk P w K mg base CX0 4 f fd ["tree", "block"] (spParents Z) := by
  refine F.ok sc_parents (fun vs H Q E h => ?_) (fun cdv A outer s H vs Q E hr h => ?_)
  · obtain ⟨x, hs, k, rfl, _⟩ := h
    rfl
  · obtain ⟨x, hs, k, rfl, ht, it, h1, h2, q⟩ := h
    refine ⟨_, (pss_cons (ps_set (i := 2) sc_parents.nd rfl (Or.inl rfl) (pe_lst (pa_cons (pe_call G_place_of (hr.mono (by first | decide | omega)) (by rfl) C_place_of.g C_place_of.k C_place_of.b .nil pass0 (pa_cons (pv 0) (pa_cons (pv 1) pa_nil))) pa_nil)))
 (pss_cons (ps_while PassesOwn.never (pt_cmpR op_ne (pe_ix (ix_listK (K := K) rfl) (pv 2) (pe_un un_neg pe_int) (fun _ _ => rfl)) pe_int (nomark _)) (pss_one (ps_expr (pe_bmK (K := K) rfl PySem.F.plainAttrs_list PySem.F.slot_list_append PySem.F.type_list_append mt_append (pv 2) (pa_cons (pe_call G_place_of (hr.mono (by first | decide | omega)) (by rfl) C_place_of.g C_place_of.k C_place_of.b .nil pass0 (pa_cons (pv 0) (pa_cons (pe_ix (ix_listK (K := K) rfl) (pv 2) (pe_un un_neg pe_int) (fun _ _ => rfl)) pa_nil))) pa_nil)))))
 (pss_one (ps_ret (pe_callTy (call_tplK (K := K) rfl) (by rfl) B.b_tuple (by decide +kernel) (pa_cons (pv 2) pa_nil)))))), ?_⟩
    walk_at "h0"
    refine ⟨x, hs, k, rfl, ht, h1, h2, ?_⟩
    walk_at "hs"
    intro L hL
    walk_at "hs"
    refine ⟨fun m σ' H' => ∃ n : Nat, n + m = hs.length ∧ 1 ≤ n ∧ σ' = [some (.ref x), some (.int k), some (.ref L)] ∧ Same H H' ∧ (∀ j, j < n → upN hs j k ≠ 0) ∧ H' L = some (.lst (nats ((List.range n).map fun i => upN hs (i + 1) k))), ⟨hs.length - 1, 1, by omega, by omega, rfl, by walk_at "sm", fun j hj => ?_, upd_same⟩, ?_⟩
    · have e : j = 0 := by omega
      subst e
      show k ≠ 0
      omega
    · rintro m σ' H' ⟨n, hn, n1, rfl, s1, hz, eL⟩
      obtain ⟨n, rfl⟩ : ∃ n', n = n' + 1 := ⟨n - 1, by omega⟩
      have el : nats ((List.range (n + 1)).map fun i => upN hs (i + 1) k) = nats ((List.range n).map fun i => upN hs (i + 1) k) ++ [.int (upN hs (n + 1) k : Nat)] := by
        rw [List.range_succ, List.map_append, nats_append]
        rfl
      have hL1 : SqL K H' L (nats ((List.range (n + 1)).map fun i => upN hs (i + 1) k)) := .of eL
      have hat : atI (nats ((List.range (n + 1)).map fun i => upN hs (i + 1) k)) (-1) = some (.int (upN hs (n + 1) k : Nat)) := by
        rw [el]
        exact atI_last _ _
      walk_at "hs"
      refine x_isd (fun c => ?_) (fun c => ?_)
      · have c' : upN hs (n + 1) k ≠ 0 := fun e => c (by rw [e]; rfl)
        have hlt : n + 1 < hs.length := by
          refine Nat.lt_of_not_le fun hle => c' ?_
          exact upN_more (it.comes k h2) hle
        have hup := upN_le it.le (n + 1) k h2
        refine ⟨fun σ' H2 => σ' = [some (.ref x), some (.int k), some (.ref L)] ∧ Same H H2 ∧ H2 L = some (.lst (nats ((List.range (n + 1 + 1)).map fun i => upN hs (i + 1) k))), fun σ' H2 hN => ⟨m - 1, by omega, n + 1 + 1, by omega, by omega, hN.1, hN.2.1, fun j hj => ?_, hN.2.2⟩, ?_⟩
        · by_cases e : j = n + 1
          · rw [e]
            exact c'
          · exact hz j (by omega)
        · walk_at "hs"
          refine ⟨x, hs, upN hs (n + 1) k, rfl, ht.same s1, by omega, hup, ?_⟩
          walk_at "hs"
          refine x_append eL (by rw [nats_length, List.length_map, List.length_range]; exact szLt (by have := it.most; omega)) ?_
          walk_at "hs"
          refine ⟨rfl, by walk_at "sm", ?_⟩
          rw [upd_same, List.range_succ (n := n + 1), List.map_append, nats_append, List.map_cons, List.map_nil, upN_succ hs (n + 1)]
          rfl
      · have c' : upN hs (n + 1) k = 0 := by
          refine Decidable.byContradiction fun e => c fun e' => e ?_
          omega
        walk_at "hs"
        intro D hD
        refine q D _ (by walk_at "sm") (s1.free hD) ?_
        rw [upd_same, way, wayN_eq hs hs.length k (n + 1) hz c' (by omega)]
end
set_option maxRecDepth 100000
set_option maxHeartbeats 1000000
open PySem PySem.Spec L2


theorem sc_under : FnScope ["tree", "place", "block", "at"] ["tree", "place"] (defScope s_under) := ⟨rfl, rfl, rfl, by decide +kernel, rfl, by decide +kernel, by decide +kernel⟩
theorem sc_beneath : FnScope ["tree", "place", "blocks", "block"] ["tree", "place"] (defScope s_beneath) := ⟨rfl, rfl, rfl, by decide +kernel, rfl, by decide +kernel, by decide +kernel⟩
theorem sc__law_way : FnScope ["_law_hung_here", "_law_place", "_law_found", "_law_here", "_law_turn"] ["_law_hung_here", "_law_place"] (defScope s__law_way) := ⟨rfl, rfl, rfl, by decide +kernel, rfl, by decide +kernel, by decide +kernel⟩
section
variable {P : Program} {w : World} {K : PySem.W.Frag} {mg : Str → Option Value} {base : Heap} {Z : Ad}
def spUnder (Z : Ad) : Sp := fun vs H Q _ => ∃ (x : Addr) (hs : List Nat) (p : Nat), vs = [.ref x, .int p] ∧ TreeAt Z H x hs ∧ IsTree hs ∧ p ≤ hs.length ∧ ∀ D H', Same H H' → H D = none → H' D = some (.tup (nats (kids hs p))) → Q (.ref D) H'
theorem ok_under {f : Addr} {fd : FuncData} (F : Fun K "under" "under" s_under f fd) (B : Bl Z mg) (T : Cls K Z.a_Tree) (N : NoAttr K Z.a_Tree "hung") {f_is_place : Addr} {fd_is_place : FuncData} (C_is_place : Cal K mg "is_place" f_is_place fd_is_place ["tree", "thing"]) (G_is_place : FnOk P w K mg base CX0 2 f_is_place fd_is_place ["tree", "thing"] (spIsB Z 0)) : FnOk P w K mg base CX0 3 f fd ["tree", "place"] (spUnder Z) := by
  refine F.ok sc_under (fun vs H Q E h => ?_) (fun cdv A outer s H vs Q E hr h => ?_)
  · obtain ⟨x, hs, p, rfl, _⟩ := h
    rfl
  · obtain ⟨x, hs, p, rfl, ht, it, hp, q⟩ := h
    refine ⟨_, (pss_cons (ps_if (pt_not (pt_val (pe_call G_is_place (hr.mono (by first | decide | omega)) (by rfl) C_is_place.g C_is_place.k C_is_place.b .nil pass0 (pa_cons (pv 0) (pa_cons (pv 1) pa_nil))))) (pss_one ps_never) pss_nil)
 (pss_one (ps_ret (pe_callTy (call_tplK (K := K) rfl) (by rfl) B.b_tuple (by decide +kernel) (pa_cons (pe_lc (own := [("block", 2), ("at", 3)]) rfl sc_under.nd (pi_enumTK (K := K) rfl rfl (by rfl) B.b_enumerate (by decide) (by decide) (pa_cons (pe_fldK (K := K) rfl (pv 0) rfl) pa_nil)) (blkOk_by (N := ["tree", "place", "block", "at"]) (sc := defScope s_under) (by decide +kernel)) (fun _ _ _ _ _ => (pg_tupK (K := K) (n := 2) rfl rfl (pgs_cons (pg_name (i := 2) sc_under.nd rfl (Or.inl rfl)) (pgs_cons (pg_name (i := 3) sc_under.nd rfl (Or.inl rfl)) pgs_nil)))) (fun _ _ _ _ _ => (pts_one (pt_cmpR op_eq (pv 3) (pv 1) (nomark _)))) (fun _ _ _ _ _ => (pv 2))) pa_nil))))), ?_⟩
    walk_at "h0"
    refine ⟨x, hs, _, rfl, ht, True.intro, ?_⟩
    rw [num_nat (by omega) hp]
    walk_at "hs"
    obtain ⟨dx, t, h1, h2⟩ := ht
    refine ⟨x, _, dx, _, _, rfl, h1, T, N, rfl, ?_⟩
    walk_at "hs"
    refine x_ent1 (.of h2) fun D hD => ?_
    refine lc_enumT (K := K) (xs := nats hs) (fun i H' => Same H H' ∧ H' D = some (.lst (nats ((List.range' 1 i).filter fun b => decide (up hs b = p)))))
      ⟨same_new (Same.refl _) hD, upd_same⟩ (fun i H' _ h => .of (h.1 _ _ h2)) ?_ ?_
    · rintro i v H' U hv ⟨s1, eD⟩ hU
      have hi : i < hs.length := by
        have := (List.getElem?_eq_some_iff.mp hv).1
        rwa [nats_length] at this
      have hv2 : v = .int (up hs (i + 1) : Nat) := by
        have e := nats_get (up_get (hs := hs) (k := i + 1) (by omega) (by omega))
        rw [Nat.add_sub_cancel, hv] at e
        exact Option.some.inj e
      subst hv2
      have nDU : D ≠ U := ne_of_none eD hU
      walk_at "hs"
      refine ⟨rfl, ?_⟩
      walk_at "hs"
      have ec : ((1 : Int) + (i : Int)) = ((i + 1 : Nat) : Int) := by omega
      refine x_isd (fun c => ?_) (fun c => ?_)
      · walk_at "hs"
        refine ⟨_, keepN eD hU, by rw [nats_length]; exact szLt (by have := filter_len (fun b => decide (up hs b = p)) i; have := it.most; omega), same_mut (same_new s1 hU) hD, ?_⟩
        rw [upd_same, filter_snoc, if_pos (decide_eq_true (by omega)), nats_append, ec]
        rfl
      · refine ⟨same_new s1 hU, ?_⟩
        rw [keepN eD hU, filter_snoc, if_neg (by rw [decide_eq_true_eq]; omega), List.append_nil]
    · rintro H' ⟨s1, eD⟩
      rw [nats_length] at eD
      have hL : SqL K H' D _ := .of eD
      walk_at "hs"
      intro U hU
      exact q U _ (by walk_at "sm") (s1.free hU) upd_same
def spBeneath (Z : Ad) : Sp := fun vs H Q _ => ∃ (x : Addr) (hs : List Nat) (p : Nat), vs = [.ref x, .int p] ∧ TreeAt Z H x hs ∧ IsTree hs ∧ p ≤ hs.length ∧ ∀ D H', Same H H' → H D = none → H' D = some (.tup (nats (below hs p))) → Q (.ref D) H'
theorem ok_beneath {f : Addr} {fd : FuncData} (F : Fun K "beneath" "beneath" s_beneath f fd) (B : Bl Z mg) (T : Cls K Z.a_Tree) (N : NoAttr K Z.a_Tree "hung") {f_is_place : Addr} {fd_is_place : FuncData} (C_is_place : Cal K mg "is_place" f_is_place fd_is_place ["tree", "thing"]) (G_is_place : FnOk P w K mg base CX0 2 f_is_place fd_is_place ["tree", "thing"] (spIsB Z 0))
    {f_parents : Addr} {fd_parents : FuncData} (C_parents : Cal K mg "parents" f_parents fd_parents ["tree", "block"]) (G_parents : FnOk P w K mg base CX0 4 f_parents fd_parents ["tree", "block"] (spParents Z)) : FnOk P w K mg base CX0 5 f fd ["tree", "place"] (spBeneath Z) := by
  refine F.ok sc_beneath (fun vs H Q E h => ?_) (fun cdv A outer s H vs Q E hr h => ?_)
  · obtain ⟨x, hs, p, rfl, _⟩ := h
    rfl
  · obtain ⟨x, hs, p, rfl, ht, it, hp, q⟩ := h
    refine ⟨_, (pss_cons (ps_if (pt_not (pt_val (pe_call G_is_place (hr.mono (by first | decide | omega)) (by rfl) C_is_place.g C_is_place.k C_is_place.b .nil pass0 (pa_cons (pv 0) (pa_cons (pv 1) pa_nil))))) (pss_one ps_never) pss_nil)
 (pss_cons (ps_set (i := 2) sc_beneath.nd rfl (Or.inl rfl) (pe_callTy call_rng2 (by rfl) B.b_range (by decide +kernel) (pa_cons pe_int (pa_cons (pe_op op_add (pe_callB (call_lenK (K := K) rfl) (by rfl) B.b_len PySem.boot_len (pa_cons (pe_fldK (K := K) rfl (pv 0) rfl) pa_nil)) pe_int) pa_nil))))
 (pss_one (ps_ret (pe_callTy (call_tplK (K := K) rfl) (by rfl) B.b_tuple (by decide +kernel) (pa_cons (pe_lc (own := [("block", 3)]) rfl sc_beneath.nd (pi_rngV (pv 2)) (blkOk_by (N := ["tree", "place", "blocks", "block"]) (sc := defScope s_beneath) (by decide +kernel)) (fun _ _ _ _ _ => (pg_name (i := 3) sc_beneath.nd rfl (Or.inl rfl))) (fun _ _ _ _ _ => (pts_one (pt_cmpR (op_inK (K := K) rfl) (pv 1) (pe_call G_parents (hr.mono (by first | decide | omega)) (by rfl) C_parents.g C_parents.k C_parents.b .nil pass0 (pa_cons (pv 0) (pa_cons (pv 3) pa_nil))) (by rfl)))) (fun _ _ _ _ _ => (pv 3))) pa_nil)))))), ?_⟩
    walk_at "h0"
    refine ⟨x, hs, _, rfl, ht, True.intro, ?_⟩
    rw [num_nat (by omega) hp]
    walk_at "hs"
    obtain ⟨dx, t, h1, h2⟩ := id ht
    have h3 : SqT K H t (nats hs) := .of h2
    refine ⟨x, _, dx, _, _, rfl, h1, T, N, rfl, ?_⟩
    walk_at "hs"
    rw [nats_length]
    intro R hR
    walk_at "hs"
    have := it.most
    refine ⟨R, _, _, rfl, upd_same, ⟨by omega, by omega, by omega, by omega⟩, fun D hD => ?_⟩
    have nD : H D = none := Same.free (same_new (Same.refl _) hR) hD
    have en : Int.toNat ((hs.length : Int) + 1 - 1) = hs.length := by omega
    refine lc_range (lo := 1) (n := Int.toNat ((hs.length : Int) + 1 - 1)) (fun i H' => Same H H' ∧ H' D = some (.lst (nats ((List.range' 1 i).filter fun b => decide (p ∈ way hs b)))))
      ⟨same_mut (same_new (Same.refl _) hR) nD, upd_same⟩ ?_ ?_
    · rintro i H' hi ⟨s1, eD⟩
      walk_at "hs"
      refine ⟨rfl, ?_⟩
      walk_at "hs"
      have ec : ((1 : Int) + (i : Int)) = ((i + 1 : Nat) : Int) := by omega
      refine ⟨x, hs, i + 1, by rw [ec]; rfl, ht.same s1, it, by omega, by omega, fun U H2 s2 nU eU => ?_⟩
      have eD2 := s2 _ _ eD
      refine x_inNT (.of eU) ?_
      walk_at "hs"
      refine x_isd (fun c => ?_) (fun c => ?_)
      · walk_at "hs"
        refine ⟨_, eD2, by rw [nats_length]; exact szLt (by have := filter_len (fun b => decide (p ∈ way hs b)) i; omega), same_mut (s1.trans s2) nD, ?_⟩
        rw [upd_same, filter_snoc, if_pos (decide_eq_true c), nats_append, ec]
        rfl
      · refine ⟨s1.trans s2, ?_⟩
        rw [eD2, filter_snoc, if_neg (by rw [decide_eq_true_eq]; exact c), List.append_nil]
    · rintro H' ⟨s1, eD⟩
      rw [en] at eD
      have hL : SqL K H' D _ := .of eD
      walk_at "hs"
      intro U hU
      exact q U _ (by walk_at "sm") (s1.free hU) upd_same
def spWay (K : PySem.W.Frag) : Sp := fun vs H Q _ => ∃ (t : Addr) (hs : List Nat) (k : Nat), vs = [.ref t, .int k] ∧ SqT K H t (nats hs) ∧ (∀ x ∈ hs, x ≤ hs.length) ∧ hs.length ≤ 40 ∧ k ≤ hs.length ∧ ∀ D H', Same H H' → H D = none → H' D = some (.lst (nats (way hs k))) → Q (.ref D) H'
theorem ok_way {f : Addr} {fd : FuncData} (F : Fun K "_law_way" "_law_way" s__law_way f fd) (B : Bl Z mg) : FnOk P w K mg base CX0 1 f fd ["_law_hung_here", "_law_place"] (spWay K) := by
  refine F.ok sc__law_way (fun vs H Q E h => ?_) (fun cdv A outer s H vs Q E hr h => ?_)
  · obtain ⟨t, hs, k, rfl, _⟩ := h
    rfl
  · obtain ⟨t, hs, k, rfl, ht, hle, h40, hk, q⟩ := h
    refine ⟨_, (pss_cons (ps_set (i := 2) sc__law_way.nd rfl (Or.inl rfl) (pe_lst pa_nil))
 (pss_cons (ps_set (i := 3) sc__law_way.nd rfl (Or.inl rfl) (pv 1))
 (pss_cons (ps_for PassesOwn.never rfl (pi_tup (pv 0)) (pg_name (i := 4) sc__law_way.nd rfl (Or.inl rfl)) (pss_one (ps_if (pt_cmpR op_ne (pv 3) pe_int (nomark _)) (pss_cons (ps_set (i := 3) sc__law_way.nd rfl (Or.inl rfl) (pe_ix (ix_tupK (K := K) rfl) (pv 0) (pe_op op_sub (pv 3) pe_int) (fun _ _ => rfl)))
 (pss_one (ps_expr (pe_bmK (K := K) rfl PySem.F.plainAttrs_list PySem.F.slot_list_append PySem.F.type_list_append mt_append (pv 2) (pa_cons (pv 3) pa_nil))))) pss_nil)))
 (pss_one (ps_ret (pv 2)))))), ?_⟩
    walk_at "h0"
    intro D hD
    walk_at "hs"
    refine ⟨t, rfl, ⟨_, keepTN ht hD⟩, ?_⟩
    refine lp_tup (K := K) (xs := nats hs) (fun i σ' H' => (∃ x4, σ' = [some (.ref t), some (.int k), some (.ref D), some (.int (upN hs i k : Nat)), x4]) ∧ Same H H' ∧ H' D = some (.lst (nats (wayN hs i k))) ∧ (wayN hs i k).length ≤ i)
      ⟨⟨_, rfl⟩, same_new (Same.refl _) hD, upd_same, Nat.le_refl _⟩ (fun i σ' H' _ h => h.2.1.seqT ht) ?_ ?_
    · rintro i v σ' H' hv ⟨⟨x4, rfl⟩, s1, eD, hl⟩
      have hi : i < hs.length := by
        have := (List.getElem?_eq_some_iff.mp hv).1
        rwa [nats_length] at this
      have ht1 := s1.seqT ht
      have sn := wayN_snoc hs i k
      walk_at "hs"
      refine x_isd (fun c => ?_) (fun c => ?_)
      · have c' : upN hs i k ≠ 0 := fun e => c (by rw [e]; rfl)
        rw [if_neg c'] at sn
        have hup := upN_le hle i k hk
        have hat : atI (nats hs) ((upN hs i k : Nat) - 1 : Int) = some (.int (upN hs (i + 1) k : Nat)) := by
          rw [show ((upN hs i k : Nat) - 1 : Int) = ((upN hs i k - 1 : Nat) : Int) by omega, upN_succ]
          exact nats_at (up_get (by omega) hup)
        walk_at "hs"
        refine x_append eD (by rw [nats_length]; exact szLt (by omega)) ?_
        walk_at "hs"
        refine ⟨⟨_, rfl⟩, by walk_at "sm", ?_, ?_⟩
        · rw [upd_same, sn, nats_append]
          rfl
        · rw [sn, List.length_append]
          exact Nat.add_le_add_right hl 1
      · have c' : upN hs i k = 0 := by
          refine Decidable.byContradiction fun e => c fun e' => e ?_
          omega
        rw [if_pos c', List.append_nil] at sn
        walk_at "hs"
        rw [c', sn, upN_succ, c', up_zero]
        exact ⟨⟨_, rfl⟩, s1, eD, by omega⟩
    · rintro σ' H' ⟨⟨x4, rfl⟩, s1, eD, hl⟩
      rw [nats_length] at eD
      walk_at "hs"
      exact q D H' s1 hD eD
end
set_option maxRecDepth 100000
set_option maxHeartbeats 2000000
open PySem PySem.Spec L2


theorem sc_moved : FnScope ["tree", "block", "place"] ["tree", "block", "place"] (defScope s_moved) := ⟨rfl, rfl, rfl, by decide +kernel, rfl, by decide +kernel, by decide +kernel⟩
section
variable {P : Program} {w : World} {K : PySem.W.Frag} {mg : Str → Option Value} {base : Heap} {Z : Ad}
def spOrd (K : PySem.W.Frag) (Z : Ad) : Sp := fun vs H Q _ => ∃ (x t : Addr) (hs ms : List Nat), vs = [.ref x, .ref t] ∧ TreeAt Z H x hs ∧ IsTree hs ∧ SqT K H t (nats ms) ∧ IsOrd hs.length ms ∧ ∀ H', Same H H' → Q (.bl true) H'
def spCalled (K : PySem.W.Frag) (Z : Ad) : Sp := fun vs H Q _ => ∃ (x t : Addr) (hs ms : List Nat), vs = [.ref x, .ref t] ∧ TreeAt Z H x hs ∧ IsTree hs ∧ SqT K H t (nats ms) ∧ IsOrd hs.length ms ∧ ∀ m H', Same H H' → H m = none → TreeAt Z H' m (call2 hs ms) → Q (.ref m) H'
def spMoved (Z : Ad) : Sp := fun vs H Q E => ∃ (x : Addr) (hs : List Nat) (b p : Nat), vs = [.ref x, .int b, .int p] ∧ TreeAt Z H x hs ∧ IsTree hs ∧ 1 ≤ b ∧ b ≤ hs.length ∧ p ≤ hs.length ∧
  (p ≠ b → b ∉ way hs p → ∀ m H', Same H H' → H m = none → TreeAt Z H' m (put hs b p) → Q (.ref m) H') ∧ ((p = b ∨ b ∈ way hs p) → ∀ H', Same H H' → E (.ref Z.a_Beneath) none H')
theorem ok_moved {f fI : Addr} {fd : FuncData} (F : Fun K "moved" "moved" s_moved f fd) (B : Bl Z mg) (T : Cls K Z.a_Tree) (N : NoAttr K Z.a_Tree "hung") (X_Beneath : SupC P K Z.a_Beneath fI) {f_is_block : Addr} {fd_is_block : FuncData} (C_is_block : Cal K mg "is_block" f_is_block fd_is_block ["tree", "thing"]) (G_is_block : FnOk P w K mg base CX0 2 f_is_block fd_is_block ["tree", "thing"] (spIsB Z 1))
    {f_is_place : Addr} {fd_is_place : FuncData} (C_is_place : Cal K mg "is_place" f_is_place fd_is_place ["tree", "thing"]) (G_is_place : FnOk P w K mg base CX0 2 f_is_place fd_is_place ["tree", "thing"] (spIsB Z 0)) {f_beneath : Addr} {fd_beneath : FuncData} (C_beneath : Cal K mg "beneath" f_beneath fd_beneath ["tree", "place"]) (G_beneath : FnOk P w K mg base CX0 5 f_beneath fd_beneath ["tree", "place"] (spBeneath Z))
    {f_Tree___init__ : Addr} {fd_Tree___init__ : FuncData} (C_Tree___init__ : CalM K f_Tree___init__ fd_Tree___init__ ["self", "hung"]) (G_Tree___init__ : FnOk P w K mg base (L2.CX P w) 3 f_Tree___init__ fd_Tree___init__ ["self", "hung"] (spTree Z)) (M_Tree : Mk K Z.a_Tree f_Tree___init__) : FnOk P w K mg base (L2.CX P w) 6 f fd ["tree", "block", "place"] (spMoved Z) := by
  refine F.okX sc_moved (fun vs H Q E h => ?_) (fun cdv A outer s H vs Q E hr h => ?_)
  · obtain ⟨x, hs, b, p, rfl, _⟩ := h
    rfl
  · obtain ⟨x, hs, b, p, rfl, ht, it, b1, b2, hp, q, qe⟩ := h
    refine ⟨_, (pss_cons (ps_if (pt_not (pt_val (pe_call G_is_block (hr.mono (by first | decide | omega)) (by rfl) C_is_block.g C_is_block.k C_is_block.b .nil pass0 (pa_cons (pv 0) (pa_cons (pv 1) pa_nil))))) (pss_one ps_never) pss_nil)
 (pss_cons (ps_if (pt_not (pt_val (pe_call G_is_place (hr.mono (by first | decide | omega)) (by rfl) C_is_place.g C_is_place.k C_is_place.b .nil pass0 (pa_cons (pv 0) (pa_cons (pv 2) pa_nil))))) (pss_one ps_never) pss_nil)
 (pss_cons (ps_if (PW.pt (pw_or (pt_cmpR op_eq (pv 2) (pv 1) (nomark _)) (pw_or1 (pt_cmpR (op_inK (K := K) rfl) (pv 2) (pe_call G_beneath (hr.mono (by first | decide | omega)) (by rfl) C_beneath.g C_beneath.k C_beneath.b .nil pass0 (pa_cons (pv 0) (pa_cons (pv 1) pa_nil))) (by rfl))))) (pss_one (ps_raise rfl (takes_of rfl rfl rfl rfl) (pmk_sup X_Beneath (hr.mono (by first | decide | omega)) (by rfl) B.k_Beneath B.b_super))) pss_nil)
 (pss_one (ps_ret (pe_make M_Tree G_Tree___init__ (hr.mono (by first | decide | omega)) (by rfl) B.k_Tree C_Tree___init__.b .nil passE (pa_cons (pe_op (op_catAK (K := K) rfl) (pe_op (op_catAK (K := K) rfl) (pe_slice (sl_tupAK (K := K) rfl) (pe_fldK (K := K) rfl (pv 0) rfl) po_none (po_some (pe_op op_sub (pv 1) pe_int))) (pe_tup (pa_cons (pv 2) pa_nil))) (pe_slice (sl_tupAK (K := K) rfl) (pe_fldK (K := K) rfl (pv 0) rfl) (po_some (pv 1)) po_none)) pa_nil))))))), ?_⟩
    walk_at "h0"
    refine ⟨x, hs, _, rfl, ht, True.intro, ?_⟩
    rw [num_nat (by omega) b2]
    walk_at "hs"
    refine ⟨x, hs, _, rfl, ht, True.intro, ?_⟩
    rw [num_nat (by omega) hp]
    walk_at "hs"
    have dz : decide ((p : Int) = (b : Int)) = decide (p = b) := by
      rw [decide_eq_decide]
      omega
    refine x_isd (fun c => ?_) (fun c => ?_)
    · walk_at "hs"
      exact qe (.inl (by omega)) _ (Same.refl _)
    · have c' : p ≠ b := fun e => c (by rw [e])
      walk_at "hs"
      refine ⟨x, hs, b, rfl, ht, it, b2, fun D H1 s1 nD eD => ?_⟩
      refine x_inNT (.of eD) ?_
      walk_at "hs"
      refine x_isd (fun c2 => ?_) (fun c2 => ?_)
      · have c3 := (below_mem hp).mp c2
        walk_at "hs"
        exact qe (.inr c3) _ s1
      · have c3 : b ∉ way hs p := fun h => c2 ((below_mem hp).mpr h)
        walk_at "hs"
        refine x_make ?_
        walk_at "hs"
        have := it.most
        have nl := nats_length hs
        obtain ⟨dx, u, h1, h2⟩ := ht.same s1
        refine ⟨x, _, dx, _, _, rfl, h1, T, N, rfl, ?_⟩
        walk_at "hs"
        refine x_slA h2 fun D2 H2 s2 e2 => ?_
        rw [show ((b : Int) - 1) = ((b - 1 : Nat) : Int) by omega, cut_take] at e2
        walk_at "hs"
        intro p1 n1
        walk_at "hs"
        refine x_catA (keepN e2 n1) upd_same (by rw [List.length_take, List.length_cons, List.length_nil]; omega) fun D3 H3 s3 e3 => ?_
        have s13 : Same H1 H3 := fun a o e => s3 _ _ (keepN (s2 _ _ e) n1)
        walk_at "hs"
        refine ⟨x, _, dx, _, _, rfl, s13 _ _ h1, T, N, rfl, ?_⟩
        walk_at "hs"
        refine x_slA (s13 _ _ h2) fun D4 H4 s4 e4 => ?_
        rw [cut_drop] at e4
        refine x_catA (s4 _ _ e3) e4 (by rw [List.length_append, List.length_take, List.length_drop, List.length_cons, List.length_nil]; omega) fun D5 H5 s5 e5 => ?_
        rw [put_cut b1 b2] at e5
        walk_at "hs"
        refine make_tree (Q := Q) (put_tree it b1 b2 hp c' c3) e5 fun m H6 nm s6 tr => ?_
        have s05 : Same H H5 := fun a o e => s5 _ _ (s4 _ _ (s13 _ _ (s1 _ _ e)))
        exact q c' c3 m H6 (s05.trans s6) (s05.free nm) tr
end
set_option maxRecDepth 100000
set_option maxHeartbeats 1000000
open PySem PySem.Spec L2


theorem sc_is_view : FnScope ["thing", "steps"] ["thing"] (defScope s_is_view) := ⟨rfl, rfl, rfl, by decide +kernel, rfl, by decide +kernel, by decide +kernel⟩
theorem sc__row_told : FnScope ["tree", "up", "place"] ["tree", "up", "place"] (defScope s__row_told) := ⟨rfl, rfl, rfl, by decide +kernel, rfl, by decide +kernel, by decide +kernel⟩
theorem sc__ties_told : FnScope ["tree", "down", "place", "ties", "level", "_", "next_ties", "above", "block", "tie"] ["tree", "down", "place"] (defScope s__ties_told) := ⟨rfl, rfl, rfl, by decide +kernel, rfl, by decide +kernel, by decide +kernel⟩
section
variable {P : Program} {w : World} {K : PySem.W.Frag} {mg : Str → Option Value} {base : Heap} {Z : Ad}
/-- a value that is a view -/
def ViewAt (H : Hp) (v : V) (u d : Nat) : Prop := ∃ a, v = .ref a ∧ H a = some (.tup [.int (u : Nat), .int (d : Nat)]) ∧ u ≤ 4 ∧ d ≤ 4
theorem ViewAt.same {H H' : Hp} {v : V} {u d : Nat} (s : Same H H') (h : ViewAt H v u d) : ViewAt H' v u d := by
  obtain ⟨a, e, h, k⟩ := h
  exact ⟨a, e, s _ _ h, k⟩
def spIsView : Sp := fun vs H Q _ => ∃ (v : V) (u d : Nat), vs = [v] ∧ ViewAt H v u d ∧ ∀ H', Same H H' → Q (.bl true) H'
theorem ok_isView {f : Addr} {fd : FuncData} (F : Fun K "is_view" "is_view" s_is_view f fd) (B : Bl Z mg) {f_is_within : Addr} {fd_is_within : FuncData} (C_is_within : Cal K mg "is_within" f_is_within fd_is_within ["least", "most", "thing"]) (G_is_within : FnOk P w K mg base CX0 1 f_is_within fd_is_within ["least", "most", "thing"] spWithin) : FnOk P w K mg base CX0 2 f fd ["thing"] spIsView := by
  refine F.ok sc_is_view (fun vs H Q E h => ?_) (fun cdv A outer s H vs Q E hr h => ?_)
  · obtain ⟨v, u, d, rfl, _⟩ := h
    rfl
  · obtain ⟨v, u, d, rfl, ⟨a, rfl, ha, hu, hd⟩, q⟩ := h
    refine ⟨_, (pss_cons (ps_if (PW.pt (pw_or (pt_not (pt_val (pe_callB (call_isiK' (K := K) rfl) (by rfl) B.b_isinstance (by decide +kernel) (pa_cons (pv 0) (pa_cons (pe_bltn (v := .ty "tuple") (by rfl) B.b_tuple (by decide +kernel) rfl) pa_nil))))) (pw_or1 (pt_cmpR op_ne (pe_callB (call_lenK (K := K) rfl) (by rfl) B.b_len PySem.boot_len (pa_cons (pv 0) pa_nil)) pe_int (nomark _))))) (pss_one (ps_ret pe_bl)) pss_nil)
 (pss_one (ps_ret (pe_callB (cr_allK (K := K) rfl rfl) (by rfl) B.b_all (by decide +kernel) (pa_cons (pe_lc (own := [("steps", 1)]) rfl sc_is_view.nd (pi_tup (pv 0)) (blkOk_by (N := ["thing", "steps"]) (sc := defScope s_is_view) (by decide +kernel)) (fun _ _ _ _ _ => (pg_name (i := 1) sc_is_view.nd rfl (Or.inl rfl))) (fun _ _ _ _ _ => pts_nil) (fun _ _ _ _ _ => (pe_call G_is_within (hr.mono (by first | decide | omega)) (by rfl) C_is_within.g C_is_within.k C_is_within.b .nil pass0 (pa_cons pe_int (pa_cons (pe_glob (v := .int (4)) rfl B.c_MOST_STEPS ⟨_, rfl⟩) (pa_cons (pv 1) pa_nil)))))) pa_nil))))), ?_⟩
    walk_at "h0"
    refine x_isd (fun c => (c rfl).elim) (fun _ => ?_)
    walk_at "hs"
    have hT : SqT K H a [.int (u : Nat), .int (d : Nat)] := .of ha
    refine ⟨a, rfl, ⟨_, hT⟩, fun D hD => ?_⟩
    refine lc_tup (K := K) (xs := [.int (u : Nat), .int (d : Nat)]) (fun i H' => Same H H' ∧ H' D = some (.lst ((List.replicate i true).map V.bl))) ⟨same_new (Same.refl _) hD, upd_same⟩ (fun i H' _ h => h.1.seqT hT) ?_ ?_
    · rintro i v H' hv ⟨s1, eD⟩
      obtain ⟨k, hk, rfl⟩ : ∃ k : Nat, k ≤ 4 ∧ v = .int k := by
        rcases List.mem_cons.mp (List.mem_of_getElem? hv) with e | e
        · exact ⟨u, hu, e⟩
        · exact ⟨d, hd, List.mem_singleton.mp e⟩
      have hi : i < 2 := (List.getElem?_eq_some_iff.mp hv).1
      walk_at "hs"
      refine ⟨rfl, ?_⟩
      walk_at "hs"
      refine ⟨_, _, _, rfl, True.intro, ?_⟩
      rw [show numV 0 4 (.int (k : Nat)) = true from num_nat (n := 4) (by omega) hk]
      refine ⟨_, eD, by rw [List.length_map, List.length_replicate]; exact szLt (by omega), same_mut s1 hD, ?_⟩
      rw [upd_same, List.replicate_succ', List.map_append]
      rfl
    · rintro H' ⟨s1, eD⟩
      walk_at "hs"
      refine ⟨D, _, rfl, .of eD, ?_⟩
      rw [show (List.replicate ([.int (u : Nat), .int (d : Nat)] : List V).length true).all id = true by simp]
      exact q _ s1
def spRow (Z : Ad) : Sp := fun vs H Q _ => ∃ (x : Addr) (hs : List Nat) (u k : Nat), vs = [.ref x, .int u, .int k] ∧ TreeAt Z H x hs ∧ IsTree hs ∧ k ≤ hs.length ∧ ∀ D H', Same H H' → H' D = some (.tup (nats (wayN hs u k))) → Q (.ref D) H'
theorem ok_row {f : Addr} {fd : FuncData} (F : Fun K "_row_told" "_row_told" s__row_told f fd) (B : Bl Z mg) {f_parents : Addr} {fd_parents : FuncData} (C_parents : Cal K mg "parents" f_parents fd_parents ["tree", "block"]) (G_parents : FnOk P w K mg base CX0 4 f_parents fd_parents ["tree", "block"] (spParents Z)) : FnOk P w K mg base CX0 5 f fd ["tree", "up", "place"] (spRow Z) := by
  refine F.ok sc__row_told (fun vs H Q E h => ?_) (fun cdv A outer s H vs Q E hr h => ?_)
  · obtain ⟨x, hs, u, k, rfl, _⟩ := h
    rfl
  · obtain ⟨x, hs, u, k, rfl, ht, it, hk, q⟩ := h
    refine ⟨_, (pss_cons (ps_if (pt_cmpR op_eq (pv 2) pe_int (nomark _)) (pss_one (ps_ret (pe_tup pa_nil))) pss_nil)
 (pss_one (ps_ret (pe_slice (sl_tupAK (K := K) rfl) (pe_call G_parents (hr.mono (by first | decide | omega)) (by rfl) C_parents.g C_parents.k C_parents.b .nil pass0 (pa_cons (pv 0) (pa_cons (pv 2) pa_nil))) po_none (po_some (pv 1)))))), ?_⟩
    walk_at "h0"
    refine x_isd (fun c => ?_) (fun c => ?_)
    · have e : k = 0 := by omega
      subst e
      walk_at "hs"
      intro D hD
      refine q D _ (same_new (Same.refl _) hD) ?_
      rw [upd_same, wayN_nil]
      rfl
    · walk_at "hs"
      refine ⟨x, hs, k, rfl, ht, it, by omega, hk, fun D H1 s1 nD eD => ?_⟩
      walk_at "hs"
      refine x_slA eD fun D2 H2 s2 e2 => ?_
      rw [cut_take, nats_take, way_take it hk] at e2
      exact q D2 H2 (s1.trans s2) e2
/-- what stood before stays, and so do two lists apart from what is written -/
def spTies (Z : Ad) : Sp := fun vs H Q _ => ∃ (x : Addr) (hs : List Nat) (d k : Nat), vs = [.ref x, .int d, .int k] ∧ TreeAt Z H x hs ∧ IsTree hs ∧ d ≤ 4 ∧ k ≤ hs.length ∧ ∀ D H' ys, Same H H' → H' D = some (.tup ys) → PrsV H' ys (tiesN hs d k) → Q (.ref D) H'
theorem ok_ties {f : Addr} {fd : FuncData} (F : Fun K "_ties_told" "_ties_told" s__ties_told f fd) (B : Bl Z mg) {f_under : Addr} {fd_under : FuncData} (C_under : Cal K mg "under" f_under fd_under ["tree", "place"]) (G_under : FnOk P w K mg base CX0 3 f_under fd_under ["tree", "place"] (spUnder Z)) : FnOk P w K mg base CX0 4 f fd ["tree", "down", "place"] (spTies Z) := by
  refine F.ok sc__ties_told (fun vs H Q E h => ?_) (fun cdv A outer s H vs Q E hr h => ?_)
  · obtain ⟨x, hs, d, k, rfl, _⟩ := h
    rfl
  · obtain ⟨x, hs, d, k, rfl, ht, it, hd, hk, q⟩ := h
    have := it.most
    refine ⟨_, (pss_cons (ps_set (i := 3) sc__ties_told.nd rfl (Or.inl rfl) (pe_lst pa_nil))
 (pss_cons (ps_set (i := 4) sc__ties_told.nd rfl (Or.inl rfl) (pe_lst (pa_cons (pv 2) pa_nil)))
 (pss_cons (ps_for PassesOwn.never rfl (pi_range1 rfl B.b_range (pa_cons (pv 1) pa_nil)) (pg_name (i := 5) sc__ties_told.nd rfl (Or.inl rfl)) (pss_cons (ps_setLc2 (i := 6) (own := [("above", 7), ("block", 8)]) (vs1 := [8]) rfl sc__ties_told.nd rfl rfl (sw_true rfl rfl rfl (by decide +kernel)) (pi_list (pv 4)) (blkOk_by (N := ["tree", "down", "place", "ties", "level", "_", "next_ties", "above", "block", "tie"]) (sc := defScope s__ties_told) (by decide +kernel)) (by decide) (fun _ _ _ _ _ => (pg_name (i := 7) sc__ties_told.nd rfl (Or.inl rfl))) (fun _ _ _ _ _ => pts_nil) (fun _ _ _ _ _ => (pi_tupK (K := K) rfl (pe_call G_under (hr.mono (by first | decide | omega)) (by rfl) C_under.g C_under.k C_under.b .nil pass0 (pa_cons (pv 0) (pa_cons (pv 7) pa_nil))))) (fun _ _ _ _ _ => (pg_name (i := 8) sc__ties_told.nd rfl (Or.inl rfl))) (fun _ _ _ _ _ => pts_nil) (fun _ _ _ _ _ => (pe_tup (pa_cons (pv 8) (pa_cons (pv 7) pa_nil)))))
 (pss_cons (ps_expr (pe_bmK (K := K) rfl PySem.F.plainAttrs_list PySem.F.slot_list_extend PySem.F.type_list_extend mt_extend (pv 3) (pa_cons (pv 6) pa_nil)))
 (pss_one (ps_setLc (i := 4) (own := [("tie", 9)]) rfl sc__ties_told.nd rfl rfl (sw_true rfl rfl rfl (by decide +kernel)) (pi_list (pv 6)) (blkOk_by (N := ["tree", "down", "place", "ties", "level", "_", "next_ties", "above", "block", "tie"]) (sc := defScope s__ties_told) (by decide +kernel)) (fun _ _ _ _ _ => (pg_name (i := 9) sc__ties_told.nd rfl (Or.inl rfl))) (fun _ _ _ _ _ => pts_nil) (fun _ _ _ _ _ => (pe_ix (ix_tupK (K := K) rfl) (pv 9) pe_int (fun _ _ => rfl))))))))
 (pss_one (ps_ret (pe_callTy (call_tplK (K := K) rfl) (by rfl) B.b_tuple (by decide +kernel) (pa_cons (pe_callB (cr_sortedPO' (K := K) rfl) (by rfl) B.b_sorted (by decide +kernel) (pa_cons (pv 3) pa_nil)) pa_nil))))))), ?_⟩
    walk_at "h0"
    intro T nT
    walk_at "hs"
    intro L0 nL0
    walk_at "hs"
    refine ⟨_, rfl, by omega, by omega, ?_⟩
    refine lp_range (lo := 0) (n := Int.toNat (d : Int)) (fun i σ' H' => ∃ (L : Addr) (vs : List V), (∃ x5 x6 x7 x8 x9, σ' = [some (.ref x), some (.int d), some (.int k), some (.ref T), some (.ref L), x5, x6, x7, x8, x9]) ∧ Same H H' ∧ H' T = some (.lst vs) ∧ PrsV H' vs (withUp hs (acc hs k i)) ∧ H' L = some (.lst (nats (lev hs k i))))
      ⟨L0, [], ⟨_, _, _, _, _, rfl⟩, same_new (same_new (Same.refl _) nT) nL0, keepN upd_same nL0, True.intro, upd_same⟩ ?_ ?_
    · rintro i σ' H1 hi ⟨L, vs, ⟨x5, x6, x7, x8, x9, rfl⟩, s1, eT, pT, eL⟩
      have ht1 := ht.same s1
      have hL1 : SqL K H1 L (nats (lev hs k i)) := .of eL
      walk_at "hs"
      refine ⟨L, rfl, ⟨_, hL1⟩, fun D nD => ?_⟩
      have nTD : T ≠ D := ne_of_none eT nD
      refine lc2_list (K := K) (xs := nats (lev hs k i)) (fun j H' => Same H1 H' ∧ ∃ ws, H' D = some (.lst ws) ∧ PrsV H' ws (((lev hs k i).take j).flatMap fun a => (kids hs a).map fun b => (b, a)))
        ⟨same_new (Same.refl _) nD, [], upd_same, by rw [List.take_zero]; exact True.intro⟩ (fun j H' _ h => h.1.seq hL1) ?_ ?_
      · rintro j v H2 hv ⟨s2, ws, eD, pD⟩
        obtain ⟨a, ha, rfl⟩ : ∃ a : Nat, (lev hs k i)[j]? = some a ∧ v = .int a := by
          unfold nats at hv
          rw [List.getElem?_map] at hv
          cases e : (lev hs k i)[j]? with
          | none =>
            rw [e] at hv
            cases hv
          | some c =>
            rw [e] at hv
            exact ⟨c, rfl, (Option.some.inj hv).symm⟩
        have ma := (lev_mem it hk i a).mp (List.mem_of_getElem? ha)
        walk_at "hs"
        refine ⟨rfl, ?_⟩
        walk_at "hs"
        refine ⟨x, hs, a, rfl, ht1.same s2, it, ma.1, fun U H3 s3 nU eU => ?_⟩
        have hU3 : SqT K H3 U (nats (kids hs a)) := .of eU
        refine ⟨U, rfl, ⟨_, hU3⟩, ?_⟩
        refine lc2_tup (K := K) (xs := nats (kids hs a)) (fun l H' => Same H1 H' ∧ H' U = some (.tup (nats (kids hs a))) ∧ ∃ ws, H' D = some (.lst ws) ∧ PrsV H' ws ((((lev hs k i).take j).flatMap fun a => (kids hs a).map fun b => (b, a)) ++ ((kids hs a).take l).map fun b => (b, a)))
          ⟨s2.trans s3, eU, ws, s3 _ _ eD, by rw [List.take_zero, List.map_nil, List.append_nil]; exact pD.same s3⟩ (fun l H' _ h => .of h.2.1) ?_ ?_
        · rintro l v H4 hv ⟨s4, eU4, ws4, eD4, pD4⟩
          obtain ⟨b, hb, rfl⟩ : ∃ b : Nat, (kids hs a)[l]? = some b ∧ v = .int b := by
            unfold nats at hv
            rw [List.getElem?_map] at hv
            cases e : (kids hs a)[l]? with
            | none =>
              rw [e] at hv
              cases hv
            | some c =>
              rw [e] at hv
              exact ⟨c, rfl, (Option.some.inj hv).symm⟩
          have nUD : U ≠ D := fun z => by
            rw [z, eD4] at eU4
            cases eU4
          walk_at "hs"
          refine ⟨rfl, ?_⟩
          walk_at "hs"
          intro T2 nT2
          have lb : ws4.length ≤ 2000 := by
            rw [pD4.len, List.length_append, List.length_flatMap]
            have h1 : ((kids hs a).take l).length ≤ 40 := by
              have := filter_len (fun b => decide (up hs b = a)) hs.length
              have := List.length_take_le' l (kids hs a)
              unfold kids at *
              omega
            have h2 : ∀ m : List Nat, ((m.map fun a => ((kids hs a).map fun b => (b, a)).length).sum) ≤ m.length * 40 := fun m => by
              induction m with
              | nil => exact Nat.le_refl _
              | cons z m ih =>
                rw [List.map_cons, List.sum_cons, List.length_map, List.length_cons]
                have : (kids hs z).length ≤ hs.length := filter_len _ _
                omega
            have h3 := h2 ((lev hs k i).take j)
            have h4 := lev_len it hk i
            have h5 := List.length_take_le' j (lev hs k i)
            rw [List.length_map]
            omega
          refine ⟨ws4, keepN eD4 nT2, szLt (by omega), same_mut (same_new s4 nT2) nD, keepM nUD (keepN eU4 nT2), _, upd_same, ?_⟩
          have p5 : PrsV (upd H4 T2 (.tup [.int (b : Nat), .int (a : Nat)])) ws4 _ := pD4.same (same_new (Same.refl _) nT2)
          have p6 := (p5.app (vs := ws4) (ws := [.ref T2]) (ys := [(b, a)]) ⟨⟨T2, rfl, upd_same⟩, True.intro⟩).mut (o := .lst (ws4 ++ [.ref T2])) (keepN eD4 nT2)
          rw [take_snoc hb, List.map_append, ← List.append_assoc]
          exact p6
        · rintro H4 ⟨s4, eU4, ws4, eD4, pD4⟩
          refine ⟨s4, ws4, eD4, ?_⟩
          rw [nats_length, List.take_length] at pD4
          rw [take_snoc ha, List.flatMap_append]
          simpa using pD4
      · rintro H2 ⟨s2, ws, eD, pD⟩
        rw [nats_length, List.take_length, next_ties] at pD
        have eT2 := s2 _ _ eT
        have pT2 := pT.same s2
        have lw : ws.length ≤ 40 := by
          rw [pD.len]
          unfold withUp
          rw [List.length_map]
          have := lev_len it hk (i + 1)
          omega
        have lv : vs.length ≤ 40 := by
          rw [pT.len]
          unfold withUp
          rw [List.length_map]
          have := acc_len it hk i
          omega
        walk_at "hs"
        refine x_extend eT2 eD (by omega) ?_
        have pD3 : PrsV (upd H2 T (.lst (vs ++ ws))) ws (withUp hs (lev hs k (i + 1))) := pD.mut eT2
        have pT3 : PrsV (upd H2 T (.lst (vs ++ ws))) (vs ++ ws) (withUp hs (acc hs k (i + 1))) := by
          have := (pT2.app pD).mut (o := .lst (vs ++ ws)) eT2
          unfold withUp at this ⊢
          rw [← List.map_append] at this
          exact this
        have eD3 : upd H2 T (.lst (vs ++ ws)) D = some (.lst ws) := keepM (Ne.symm nTD) eD
        have s3 : Same H (upd H2 T (.lst (vs ++ ws))) := same_mut (s1.trans s2) nT
        have eT3 : upd H2 T (.lst (vs ++ ws)) T = some (.lst (vs ++ ws)) := upd_same
        generalize upd H2 T (.lst (vs ++ ws)) = H3 at pD3 pT3 eD3 s3 eT3 ⊢
        have hD3 : SqL K H3 D ws := .of eD3
        walk_at "hs"
        refine ⟨D, rfl, ⟨_, hD3⟩, fun M nM => ?_⟩
        refine lc_list (K := K) (a := D) (xs := ws) (fun j H' => Same H3 H' ∧ H' M = some (.lst (nats ((lev hs k (i + 1)).take j)))) ⟨same_new (Same.refl _) nM, upd_same⟩ (fun j H' _ h => h.1.seq hD3) ?_ ?_
        · rintro j v H4 hv ⟨s4, eM⟩
          obtain ⟨y, hy, t, rfl, ht4⟩ := pD3.at hv
          obtain ⟨b, hb, rfl⟩ : ∃ b : Nat, (lev hs k (i + 1))[j]? = some b ∧ y = (b, up hs b) := by
            unfold withUp at hy
            rw [List.getElem?_map] at hy
            cases e : (lev hs k (i + 1))[j]? with
            | none =>
              rw [e] at hy
              cases hy
            | some c =>
              rw [e] at hy
              exact ⟨c, rfl, (Option.some.inj hy).symm⟩
          have ht5 : SqT K H4 t [.int (b : Nat), .int (up hs b : Nat)] := .of (s4 _ _ ht4)
          walk_at "hs"
          refine ⟨rfl, ?_⟩
          walk_at "hs"
          refine ⟨_, eM, by rw [nats_length]; exact szLt (by have := lev_len it hk (i + 1); have := List.length_take_le' j (lev hs k (i + 1)); omega), same_mut s4 nM, ?_⟩
          rw [upd_same, take_snoc hb, nats_append]
          rfl
        · rintro H4 ⟨s4, eM⟩
          have hw : ws.length = (lev hs k (i + 1)).length := by
            rw [pD.len]
            unfold withUp
            rw [List.length_map]
          rw [hw, List.take_length] at eM
          walk_at "hs"
          exact ⟨M, _, ⟨_, _, _, _, _, rfl⟩, s3.trans s4, s4 _ _ eT3, pT3.same s4, eM⟩
    · rintro σ' H1 ⟨L, vs, ⟨x5, x6, x7, x8, x9, rfl⟩, s1, eT, pT, eL⟩
      rw [Int.toNat_natCast] at pT
      have hT1 : SqL K H1 T vs := .of eT
      walk_at "hs"
      refine x_sortP it hk hT1 pT fun ys p hy np => ?_
      walk_at "hs"
      intro U nU
      refine q U _ ys (same_new (same_new s1 np) nU) upd_same ?_
      exact hy.same (same_new (same_new (Same.refl _) np) nU)
end
set_option maxRecDepth 100000
set_option maxHeartbeats 1000000
open PySem PySem.Spec L2


theorem sc_telling : FnScope ["tree", "view", "place", "up", "down"] ["tree", "view", "place"] (defScope s_telling) := ⟨rfl, rfl, rfl, by decide +kernel, rfl, by decide +kernel, by decide +kernel⟩
theorem sc_unlike : FnScope ["tree", "other", "view", "places", "place"] ["tree", "other", "view"] (defScope s_unlike) := ⟨rfl, rfl, rfl, by decide +kernel, rfl, by decide +kernel, by decide +kernel⟩
section
variable {P : Program} {w : World} {K : PySem.W.Frag} {mg : Str → Option Value} {base : Heap} {Z : Ad}
def spTell (Z : Ad) : Sp := fun vs H Q _ => ∃ (x : Addr) (v : V) (hs : List Nat) (u d k : Nat), vs = [.ref x, v, .int k] ∧ TreeAt Z H x hs ∧ IsTree hs ∧ ViewAt H v u d ∧ k ≤ hs.length ∧ ∀ r H', Same H H' → TelAt H' r (wayN hs u k) (tiesN hs d k) → Q r H'
theorem ok_tell {f : Addr} {fd : FuncData} (F : Fun K "telling" "telling" s_telling f fd) (B : Bl Z mg) {f_is_view : Addr} {fd_is_view : FuncData} (C_is_view : Cal K mg "is_view" f_is_view fd_is_view ["thing"]) (G_is_view : FnOk P w K mg base CX0 2 f_is_view fd_is_view ["thing"] spIsView) {f_is_place : Addr} {fd_is_place : FuncData} (C_is_place : Cal K mg "is_place" f_is_place fd_is_place ["tree", "thing"]) (G_is_place : FnOk P w K mg base CX0 2 f_is_place fd_is_place ["tree", "thing"] (spIsB Z 0))
    {f__row_told : Addr} {fd__row_told : FuncData} (C__row_told : Cal K mg "_row_told" f__row_told fd__row_told ["tree", "up", "place"]) (G__row_told : FnOk P w K mg base CX0 5 f__row_told fd__row_told ["tree", "up", "place"] (spRow Z)) {f__ties_told : Addr} {fd__ties_told : FuncData} (C__ties_told : Cal K mg "_ties_told" f__ties_told fd__ties_told ["tree", "down", "place"]) (G__ties_told : FnOk P w K mg base CX0 4 f__ties_told fd__ties_told ["tree", "down", "place"] (spTies Z)) : FnOk P w K mg base CX0 6 f fd ["tree", "view", "place"] (spTell Z) := by
  refine F.ok sc_telling (fun vs H Q E h => ?_) (fun cdv A outer s H vs Q E hr h => ?_)
  · obtain ⟨x, v, hs, u, d, k, rfl, _⟩ := h
    rfl
  · obtain ⟨x, v, hs, u, d, k, rfl, ht, it, hv, hk, q⟩ := h
    refine ⟨_, (pss_cons (ps_if (pt_not (pt_val (pe_call G_is_view (hr.mono (by first | decide | omega)) (by rfl) C_is_view.g C_is_view.k C_is_view.b .nil pass0 (pa_cons (pv 1) pa_nil)))) (pss_one ps_never) pss_nil)
 (pss_cons (ps_if (pt_not (pt_val (pe_call G_is_place (hr.mono (by first | decide | omega)) (by rfl) C_is_place.g C_is_place.k C_is_place.b .nil pass0 (pa_cons (pv 0) (pa_cons (pv 2) pa_nil))))) (pss_one ps_never) pss_nil)
 (pss_cons (ps_asg (pv 1) (pg_tup rfl (pgs_cons (pg_name (i := 3) sc_telling.nd rfl (Or.inl rfl)) (pgs_cons (pg_name (i := 4) sc_telling.nd rfl (Or.inl rfl)) pgs_nil))))
 (pss_one (ps_ret (pe_tup (pa_cons (pe_call G__row_told (hr.mono (by first | decide | omega)) (by rfl) C__row_told.g C__row_told.k C__row_told.b .nil pass0 (pa_cons (pv 0) (pa_cons (pv 3) (pa_cons (pv 2) pa_nil)))) (pa_cons (pe_call G__ties_told (hr.mono (by first | decide | omega)) (by rfl) C__ties_told.g C__ties_told.k C__ties_told.b .nil pass0 (pa_cons (pv 0) (pa_cons (pv 4) (pa_cons (pv 2) pa_nil)))) pa_nil)))))))), ?_⟩
    walk_at "h0"
    refine ⟨v, u, d, rfl, hv, fun H1 s1 => ?_⟩
    have ht1 := ht.same s1
    obtain ⟨a, rfl, ha, hu, hd⟩ := hv.same s1
    walk_at "hs"
    refine ⟨x, hs, _, rfl, ht1, True.intro, ?_⟩
    rw [num_nat (by omega) hk]
    have hT : SqT K H1 a [.int (u : Nat), .int (d : Nat)] := .of ha
    walk_at "hs"
    refine ⟨x, hs, u, k, rfl, ht1, it, hk, fun D H2 s2 e2 => ?_⟩
    walk_at "hs"
    refine ⟨x, hs, d, k, rfl, ht1.same s2, it, hd, hk, fun D2 H3 ys s3 e3 p3 => ?_⟩
    walk_at "hs"
    intro U nU
    have s4 : Same H3 (upd H3 U (.tup [.ref D, .ref D2])) := same_new (Same.refl _) nU
    exact q _ _ (fun b o e => s4 _ _ (s3 _ _ (s2 _ _ (s1 _ _ e)))) ⟨U, D, D2, ys, rfl, upd_same, s4 _ _ (s3 _ _ e2), s4 _ _ e3, p3.same s4⟩
def spUnlike (Z : Ad) : Sp := fun vs H Q _ => ∃ (x y : Addr) (v : V) (hs gs : List Nat) (u d : Nat), vs = [.ref x, .ref y, v] ∧ TreeAt Z H x hs ∧ IsTree hs ∧ TreeAt Z H y gs ∧ IsTree gs ∧ hs.length = gs.length ∧ ViewAt H v u d ∧ ∀ D H', Same H H' → H' D = some (.tup (nats (unlikeN hs gs u d))) → Q (.ref D) H'
theorem ok_unlike {f : Addr} {fd : FuncData} (F : Fun K "unlike" "unlike" s_unlike f fd) (B : Bl Z mg) (I : IsC K Z.a_Tree) (T : Cls K Z.a_Tree) (N : NoAttr K Z.a_Tree "hung") {f_is_view : Addr} {fd_is_view : FuncData} (C_is_view : Cal K mg "is_view" f_is_view fd_is_view ["thing"]) (G_is_view : FnOk P w K mg base CX0 2 f_is_view fd_is_view ["thing"] spIsView)
    {f_telling : Addr} {fd_telling : FuncData} (C_telling : Cal K mg "telling" f_telling fd_telling ["tree", "view", "place"]) (G_telling : FnOk P w K mg base CX0 6 f_telling fd_telling ["tree", "view", "place"] (spTell Z)) : FnOk P w K mg base CX0 7 f fd ["tree", "other", "view"] (spUnlike Z) := by
  refine F.ok sc_unlike (fun vs H Q E h => ?_) (fun cdv A outer s H vs Q E hr h => ?_)
  · obtain ⟨x, y, v, hs, gs, u, d, rfl, _⟩ := h
    rfl
  · obtain ⟨x, y, v, hs, gs, u, d, rfl, hx, ix, hy, iy, hl, hv, q⟩ := h
    refine ⟨_, (pss_cons (ps_if (PW.pt (pw_or (pt_not (pt_val (pe_callB (call_isiK' (K := K) rfl) (by rfl) B.b_isinstance (by decide +kernel) (pa_cons (pv 1) (pa_cons (pe_glob (v := .ref Z.a_Tree) rfl B.k_Tree rfl) pa_nil))))) (pw_or1 (pt_cmpR op_ne (pe_callB (call_lenK (K := K) rfl) (by rfl) B.b_len PySem.boot_len (pa_cons (pe_fldK (K := K) rfl (pv 0) rfl) pa_nil)) (pe_callB (call_lenK (K := K) rfl) (by rfl) B.b_len PySem.boot_len (pa_cons (pe_fldK (K := K) rfl (pv 1) rfl) pa_nil)) (nomark _))))) (pss_one ps_never) pss_nil)
 (pss_cons (ps_if (pt_not (pt_val (pe_call G_is_view (hr.mono (by first | decide | omega)) (by rfl) C_is_view.g C_is_view.k C_is_view.b .nil pass0 (pa_cons (pv 2) pa_nil)))) (pss_one ps_never) pss_nil)
 (pss_cons (ps_set (i := 3) sc_unlike.nd rfl (Or.inl rfl) (pe_callTy call_rng1 (by rfl) B.b_range (by decide +kernel) (pa_cons (pe_op op_add (pe_callB (call_lenK (K := K) rfl) (by rfl) B.b_len PySem.boot_len (pa_cons (pe_fldK (K := K) rfl (pv 0) rfl) pa_nil)) pe_int) pa_nil)))
 (pss_one (ps_ret (pe_callTy (call_tplK (K := K) rfl) (by rfl) B.b_tuple (by decide +kernel) (pa_cons (pe_lc (own := [("place", 4)]) rfl sc_unlike.nd (pi_rngV (pv 3)) (blkOk_by (N := ["tree", "other", "view", "places", "place"]) (sc := defScope s_unlike) (by decide +kernel)) (fun _ _ _ _ _ => (pg_name (i := 4) sc_unlike.nd rfl (Or.inl rfl))) (fun _ _ _ _ _ => (pts_one (pt_cmpR (op_neDK (K := K) rfl hr.units) (pe_call G_telling (hr.mono (by first | decide | omega)) (by rfl) C_telling.g C_telling.k C_telling.b .nil pass0 (pa_cons (pv 0) (pa_cons (pv 2) (pa_cons (pv 4) pa_nil)))) (pe_call G_telling (hr.mono (by first | decide | omega)) (by rfl) C_telling.g C_telling.k C_telling.b .nil pass0 (pa_cons (pv 1) (pa_cons (pv 2) (pa_cons (pv 4) pa_nil)))) (nomark _)))) (fun _ _ _ _ _ => (pv 4))) pa_nil))))))), ?_⟩
    have := ix.most
    walk_at "h0"
    obtain ⟨dx, t, h1, h2⟩ := id hx
    obtain ⟨dy, t', h1', h2'⟩ := id hy
    refine isi_own I h1' ?_
    walk_at "hs"
    refine ⟨x, _, dx, _, _, rfl, h1, T, N, rfl, ?_⟩
    walk_at "hs"
    refine ⟨y, _, dy, _, _, rfl, h1', T, N, rfl, ?_⟩
    walk_at "hs"
    refine x_isd (fun c => (c (by rw [nats_length, nats_length, hl])).elim) (fun _ => ?_)
    walk_at "hs"
    refine ⟨v, u, d, rfl, hv, fun H1 s1 => ?_⟩
    have hx1 := hx.same s1
    have hy1 := hy.same s1
    have hv1 := hv.same s1
    walk_at "hs"
    obtain ⟨dx, t, h1, h2⟩ := id hx1
    refine ⟨x, _, dx, _, _, rfl, h1, T, N, rfl, ?_⟩
    walk_at "hs"
    rw [nats_length]
    refine x_rngA1 fun R hR => ?_
    walk_at "hs"
    refine ⟨R, _, _, rfl, upd_same, ⟨by omega, by omega, by omega, by omega⟩, fun D hD => ?_⟩
    have nD : H1 D = none := Same.free (same_new (Same.refl _) hR) hD
    have en : Int.toNat ((hs.length : Int) + 1 - 0) = hs.length + 1 := by omega
    refine lc_range (lo := 0) (n := Int.toNat ((hs.length : Int) + 1 - 0)) (fun i H' => Same H1 H' ∧ H' D = some (.lst (nats ((List.range i).filter fun p => !telD hs gs u d p))))
      ⟨same_mut (same_new (Same.refl _) hR) nD, upd_same⟩ ?_ ?_
    · rintro i H2 hi ⟨s2, eD⟩
      have ec : ((0 : Int) + (i : Int)) = ((i : Nat) : Int) := by omega
      walk_at "hs"
      refine ⟨rfl, ?_⟩
      walk_at "hs"
      refine ⟨x, v, hs, u, d, i, by rw [ec]; rfl, hx1.same s2, ix, hv1.same s2, by omega, fun r H3 s3 t3 => ?_⟩
      have s23 := s2.trans s3
      walk_at "hs"
      refine ⟨y, v, gs, u, d, i, by rw [ec]; rfl, hy1.same s23, iy, hv1.same s23, by omega, fun r' H4 s4 t4 => ?_⟩
      have s24 := s23.trans s4
      refine x_neTel (t3.same s4) t4 ?_
      have eD4 := s4 _ _ (s3 _ _ eD)
      have lb : ((List.range i).filter fun p => !telD hs gs u d p).length ≤ 41 := by
        have := List.length_filter_le (fun p => !telD hs gs u d p) (List.range i)
        rw [List.length_range] at this
        omega
      have fs := range0_snoc (fun p => !telD hs gs u d p) i
      show ∃ k, V.bl (!telD hs gs u d i) = .bl k ∧ _
      cases ht : telD hs gs u d i with
      | true =>
        walk_at "hs"
        refine ⟨s24, ?_⟩
        rw [eD4, fs, ht]
        simp
      | false =>
        walk_at "hs"
        refine ⟨_, eD4, by rw [nats_length]; exact szLt (by omega), same_mut s24 nD, ?_⟩
        rw [upd_same, fs, ht, ec, nats_append]
        rfl
    · rintro H2 ⟨s2, eD⟩
      rw [en] at eD
      walk_at "hs"
      have hL : SqL K H2 D (nats (unlikeN hs gs u d)) := .of eD
      walk_at "hs"
      intro U nU
      exact q U _ (same_new (s1.trans s2) nU) upd_same
end
set_option maxRecDepth 100000
set_option maxHeartbeats 2000000
open PySem PySem.Spec L2


theorem sc_distance : FnScope ["view", "up", "down", "by_row", "by_ties"] ["view"] (defScope s_distance) := ⟨rfl, rfl, rfl, by decide +kernel, rfl, by decide +kernel, by decide +kernel⟩
theorem sc_twins : FnScope ["view", "blocks", "_", "down", "row", "rest"] ["view", "blocks"] (defScope s_twins) := ⟨rfl, rfl, rfl, by decide +kernel, rfl, by decide +kernel, by decide +kernel⟩
section
variable {P : Program} {w : World} {K : PySem.W.Frag} {mg : Str → Option Value} {base : Heap} {Z : Ad}
def spDist : Sp := fun vs H Q _ => ∃ (v : V) (u d : Nat), vs = [v] ∧ ViewAt H v u d ∧ ∀ H', Same H H' → Q (.int (dist u d : Nat)) H'
theorem ok_dist {f : Addr} {fd : FuncData} (F : Fun K "distance" "distance" s_distance f fd) (B : Bl Z mg) {f_is_view : Addr} {fd_is_view : FuncData} (C_is_view : Cal K mg "is_view" f_is_view fd_is_view ["thing"]) (G_is_view : FnOk P w K mg base CX0 2 f_is_view fd_is_view ["thing"] spIsView) : FnOk P w K mg base CX0 3 f fd ["view"] spDist := by
  refine F.ok sc_distance (fun vs H Q E h => ?_) (fun cdv A outer s H vs Q E hr h => ?_)
  · obtain ⟨v, u, d, rfl, _⟩ := h
    rfl
  · obtain ⟨v, u, d, rfl, hv, q⟩ := h
    refine ⟨_, (pss_cons (ps_if (pt_not (pt_val (pe_call G_is_view (hr.mono (by first | decide | omega)) (by rfl) C_is_view.g C_is_view.k C_is_view.b .nil pass0 (pa_cons (pv 0) pa_nil)))) (pss_one ps_never) pss_nil)
 (pss_cons (ps_asg (pv 0) (pg_tup rfl (pgs_cons (pg_name (i := 1) sc_distance.nd rfl (Or.inl rfl)) (pgs_cons (pg_name (i := 2) sc_distance.nd rfl (Or.inl rfl)) pgs_nil))))
 (pss_cons (ps_set (i := 3) sc_distance.nd rfl (Or.inl rfl) (pe_ifExp (pt_cmpR op_gt (pv 1) pe_int (nomark _)) pe_int pe_int))
 (pss_cons (ps_set (i := 4) sc_distance.nd rfl (Or.inl rfl) (pe_ifExp (pt_cmpR op_gt (pv 2) pe_int (nomark _)) (pe_op op_add (pv 2) pe_int) pe_int))
 (pss_one (ps_ret (pe_op op_add (pv 3) (pv 4)))))))), ?_⟩
    walk_at "h0"
    refine ⟨v, u, d, rfl, hv, fun H1 s1 => ?_⟩
    obtain ⟨a, rfl, ha, hu, hd⟩ := hv.same s1
    have hT : SqT K H1 a [.int (u : Nat), .int (d : Nat)] := .of ha
    have fin : ∀ z : Int, z = ((dist u d : Nat) : Int) → Q (.int z) H1 := fun z e => by
      rw [e]
      exact q _ s1
    walk_at "hs"
    unfold dist at fin
    refine x_isd (fun c => ?_) (fun c => ?_)
    · walk_at "hs"
      refine x_isd (fun c2 => ?_) (fun c2 => ?_)
      · walk_at "hs"
        exact fin _ (by rw [if_pos (by omega), if_pos (by omega)]; omega)
      · walk_at "hs"
        exact fin _ (by rw [if_neg (by omega), if_pos (by omega)]; omega)
    · walk_at "hs"
      refine x_isd (fun c2 => ?_) (fun c2 => ?_)
      · walk_at "hs"
        exact fin _ (by rw [if_pos (by omega), if_neg (by omega)]; omega)
      · walk_at "hs"
        exact fin _ (by rw [if_neg (by omega), if_neg (by omega)]; omega)
theorem rg_nats0 (n : Nat) : rgV 0 (n : Int) = nats (List.range n) := by
  unfold rgV nats
  rw [show ((n : Int) - 0).toNat = n by omega]
  refine List.map_congr_left fun i _ => ?_
  rw [show (0 : Int) + ((i : Nat) : Int) = ((i : Nat) : Int) by omega]
  rfl
theorem make_treeR {H : Hp} {R : Addr → Hp → Prop} {a : Addr} {hs : List Nat} (t : IsTree hs) (ha : H a = some (.tup (nats hs))) (q : ∀ m H', H m = none → Same H H' → TreeAt Z H' m hs → R m H') :
    ∀ x dx, H x = none → H dx = none → dx ≠ x → spTree Z (.ref x :: ([.ref a] ++ [])) (upd (upd H dx (.own x)) x (.ins Z.a_Tree dx [])) (fun v H2 => v = .non ∧ R x H2) (fun _ _ _ => False) := by
  intro m dm hm hdm ne
  exact make_tree (Q := fun v H2 => ∃ y, v = .ref y ∧ R y H2) t ha (fun m H' h1 h2 h3 => ⟨m, rfl, q m H' h1 h2 h3⟩) m dm hm hdm ne |> fun z => by
    obtain ⟨x, dx, h, e, k1, k2, k3, k4⟩ := z
    refine ⟨x, dx, h, e, k1, k2, fun H' hd b1 hm1 => ?_, k4⟩
    obtain ⟨e1, y, e2, e3⟩ := k3 H' hd b1 hm1
    cases e2
    exact ⟨e1, e3⟩
/-- the pair of twins -/
def TwinsAt (Z : Ad) (H : Hp) (v : V) (n d : Nat) : Prop := ∃ D x y, v = .ref D ∧ H D = some (.tup [.ref x, .ref y]) ∧ TreeAt Z H x (twin n d d) ∧ TreeAt Z H y (twin n d (d + 1))
def spTwins (Z : Ad) : Sp := fun vs H Q _ => ∃ (v : V) (u d n : Nat), vs = [v, .int n] ∧ ViewAt H v u d ∧ 1 ≤ n ∧ n ≤ 40 ∧ ∀ r H', Same H H' → (n < d + 2 → r = .non) → (d + 2 ≤ n → TwinsAt Z H' r n d) → Q r H'
theorem ok_twins {f : Addr} {fd : FuncData} (F : Fun K "twins" "twins" s_twins f fd) (B : Bl Z mg) {f_is_view : Addr} {fd_is_view : FuncData} (C_is_view : Cal K mg "is_view" f_is_view fd_is_view ["thing"]) (G_is_view : FnOk P w K mg base CX0 2 f_is_view fd_is_view ["thing"] spIsView) {f_is_within : Addr} {fd_is_within : FuncData} (C_is_within : Cal K mg "is_within" f_is_within fd_is_within ["least", "most", "thing"]) (G_is_within : FnOk P w K mg base CX0 1 f_is_within fd_is_within ["least", "most", "thing"] spWithin)
    {f_Tree___init__ : Addr} {fd_Tree___init__ : FuncData} (C_Tree___init__ : CalM K f_Tree___init__ fd_Tree___init__ ["self", "hung"]) (G_Tree___init__ : FnOk P w K mg base (L2.CX P w) 3 f_Tree___init__ fd_Tree___init__ ["self", "hung"] (spTree Z)) (M_Tree : Mk K Z.a_Tree f_Tree___init__) : FnOk P w K mg base CX0 5 f fd ["view", "blocks"] (spTwins Z) := by
  refine F.ok sc_twins (fun vs H Q E h => ?_) (fun cdv A outer s H vs Q E hr h => ?_)
  · obtain ⟨v, u, d, n, rfl, _⟩ := h
    rfl
  · obtain ⟨v, u, d, n, rfl, hv, n1, n2, q⟩ := h
    refine ⟨_, (pss_cons (ps_if (pt_not (pt_val (pe_call G_is_view (hr.mono (by first | decide | omega)) (by rfl) C_is_view.g C_is_view.k C_is_view.b .nil pass0 (pa_cons (pv 0) pa_nil)))) (pss_one ps_never) pss_nil)
 (pss_cons (ps_if (pt_not (pt_val (pe_call G_is_within (hr.mono (by first | decide | omega)) (by rfl) C_is_within.g C_is_within.k C_is_within.b .nil pass0 (pa_cons pe_int (pa_cons (pe_glob (v := .int (40)) rfl B.c_MOST_BLOCKS ⟨_, rfl⟩) (pa_cons (pv 1) pa_nil)))))) (pss_one ps_never) pss_nil)
 (pss_cons (ps_asg (pv 0) (pg_tup rfl (pgs_cons (pg_name (i := 2) sc_twins.nd rfl (Or.inl rfl)) (pgs_cons (pg_name (i := 3) sc_twins.nd rfl (Or.inl rfl)) pgs_nil))))
 (pss_cons (ps_if (pt_cmpR op_lt (pv 1) (pe_op op_add (pv 3) pe_int) (nomark _)) (pss_one (ps_ret pe_non)) pss_nil)
 (pss_cons (ps_set (i := 4) sc_twins.nd rfl (Or.inl rfl) (pe_tupRg rfl (by rfl) B.b_tuple (prg_1 (by rfl) B.b_range (pe_op op_add (pv 3) pe_int))))
 (pss_cons (ps_set (i := 5) sc_twins.nd rfl (Or.inl rfl) (pe_op (op_repAK (K := K) rfl) (pe_tup (pa_cons pe_int pa_nil)) (pe_op op_sub (pe_op op_sub (pv 1) (pv 3)) pe_int)))
 (pss_one (ps_ret (pe_tup (pa_cons (pe_make M_Tree G_Tree___init__ (hr.mono (by first | decide | omega)) (by rfl) B.k_Tree C_Tree___init__.b .nil passE (pa_cons (pe_tup (StX.pa_star (pv 4) (pa_cons (pv 3) (StX.pa_star (pv 5) pa_nil)))) pa_nil)) (pa_cons (pe_make M_Tree G_Tree___init__ (hr.mono (by first | decide | omega)) (by rfl) B.k_Tree C_Tree___init__.b .nil passE (pa_cons (pe_tup (StX.pa_star (pv 4) (pa_cons (pe_op op_add (pv 3) pe_int) (StX.pa_star (pv 5) pa_nil)))) pa_nil)) pa_nil))))))))))), ?_⟩
    walk_at "h0"
    refine ⟨v, u, d, rfl, hv, fun H1 s1 => ?_⟩
    obtain ⟨a, rfl, ha, hu, hd⟩ := hv.same s1
    have hT : SqT K H1 a [.int (u : Nat), .int (d : Nat)] := .of ha
    walk_at "hs"
    refine ⟨_, _, _, rfl, True.intro, ?_⟩
    rw [show numV 1 40 (.int (n : Nat)) = true from num_nat (n := 40) (by omega) n2]
    walk_at "hs"
    refine x_isd (fun c => ?_) (fun c => ?_)
    · walk_at "hs"
      exact q _ _ s1 (fun _ => rfl) fun h => absurd c (by omega)
    · have hdn : d + 2 ≤ n := by omega
      walk_at "hs"
      refine ⟨⟨by omega, by omega, by omega, by omega, by omega⟩, fun R nR => ?_⟩
      rw [show ((d : Int) + 1) = ((d + 1 : Nat) : Int) by omega, rg_nats0]
      walk_at "hs"
      intro O1 nO1
      walk_at "hs"
      refine x_repA1 upd_same (by omega) (by omega) fun O2 H3 s3 e3 => ?_
      have eR3 : H3 R = some (.tup (nats (List.range (d + 1)))) := s3 _ _ (keepN upd_same nO1)
      have s13 : Same H1 H3 := fun b o e => s3 _ _ (keepN (keepN e nR) nO1)
      have e3' : H3 O2 = some (.tup (nats (List.replicate (n - d - 2) 0))) := by
        rw [e3, show ((n : Int) - (d : Int) - 2).toNat = n - d - 2 by omega, nats_rep]
      have tw : ∀ y : Nat, y ≤ d + 1 → nats (List.range (d + 1)) ++ (V.int (y : Nat) :: (nats (List.replicate (n - d - 2) 0) ++ [])) = nats (twin n d y) := fun y _ => by
        unfold twin
        rw [nats_append, List.append_nil]
        rfl
      walk_at "hs"
      refine x_make ?_
      walk_at "hs"
      refine ⟨R, _, rfl, .inl (.of eR3), ?_⟩
      walk_at "hs"
      refine ⟨O2, _, rfl, .inl (.of e3'), ?_⟩
      walk_at "hs"
      rw [tw d (by omega)]
      refine ⟨szLe (by rw [nats_length, twin_len hdn]; omega), fun V1 nV1 => ?_⟩
      walk_at "hs"
      refine make_treeR (twin_tree hdn n2 (by omega)) upd_same fun t1 H4 nt1 s4 tr1 => ?_
      have s34 : Same H3 H4 := fun b o e => s4 _ _ (keepN e nV1)
      walk_at "hs"
      refine x_make ?_
      walk_at "hs"
      refine ⟨R, _, rfl, .inl (.of (s34 _ _ eR3)), ?_⟩
      walk_at "hs"
      refine ⟨O2, _, rfl, .inl (.of (s34 _ _ e3')), ?_⟩
      walk_at "hs"
      rw [show ((d : Int) + 1) = ((d + 1 : Nat) : Int) by omega, tw (d + 1) (by omega)]
      refine ⟨szLe (by rw [nats_length, twin_len hdn]; omega), fun V2 nV2 => ?_⟩
      walk_at "hs"
      refine make_treeR (twin_tree hdn n2 (by omega)) upd_same fun t2 H5 nt2 s5 tr2 => ?_
      have s45 : Same H4 H5 := fun b o e => s5 _ _ (keepN e nV2)
      walk_at "hs"
      intro D nD
      have s6 : Same H5 (upd H5 D (.tup [.ref t1, .ref t2])) := same_new (Same.refl _) nD
      exact q _ _ (s1.trans (s13.trans (s34.trans (s45.trans s6)))) (fun h => absurd h (by omega)) fun _ => ⟨D, t1, t2, rfl, upd_same, (tr1.same s45).same s6, tr2.same s6⟩
end
set_option maxRecDepth 100000
set_option maxHeartbeats 1000000
open PySem PySem.Spec L2


theorem sc__law_tellings : FnScope ["_law_hung_here", "_law_view_here", "_law_ties", "_law_ways", "_law_block", "_law_way_here", "_law_place"] ["_law_hung_here", "_law_view_here"] (defScope s__law_tellings) := ⟨rfl, rfl, rfl, by decide +kernel, rfl, by decide +kernel, by decide +kernel⟩
theorem sc__law_view : FnScope ["_law_pool_here"] ["_law_pool_here"] (defScope s__law_view) := ⟨rfl, rfl, rfl, by decide +kernel, rfl, by decide +kernel, by decide +kernel⟩
theorem sc__law_unlike : FnScope ["_law_one", "_law_other", "_law_view_here", "_law_first", "_law_second", "_law_place"] ["_law_one", "_law_other", "_law_view_here"] (defScope s__law_unlike) := ⟨rfl, rfl, rfl, by decide +kernel, rfl, by decide +kernel, by decide +kernel⟩
section
variable {P : Program} {w : World} {K : PySem.W.Frag} {mg : Str → Option Value} {base : Heap} {Z : Ad}
/-- the blocks up to i from which one comes to p so soon -/
def nearI (hs : List Nat) (d p i : Nat) : List Nat := (List.range' 1 i).filter fun b => decide (p ∈ wayN hs d b)
theorem nearI_snoc (hs : List Nat) (d p i : Nat) : withUp hs (nearI hs d p (i + 1)) = withUp hs (nearI hs d p i) ++ if p ∈ wayN hs d (i + 1) then [(i + 1, up hs (i + 1))] else [] := by
  unfold nearI withUp
  rw [filter_snoc, List.map_append]
  congr 1
  by_cases h : p ∈ wayN hs d (i + 1)
  · rw [if_pos (decide_eq_true h), if_pos h]
    rfl
  · rw [if_neg (by rw [decide_eq_false h]; exact Bool.false_ne_true), if_neg h]
    rfl
/-- the list of what all places tell -/
def TelsAt (H : Hp) (D : Addr) (hs : List Nat) (u d : Nat) : Prop := ∃ vs, H D = some (.lst vs) ∧ vs.length = hs.length + 1 ∧ ∀ p, p ≤ hs.length → ∃ v, vs[p]? = some v ∧ TelAt H v (wayN hs u p) (tiesN hs d p)
theorem TelsAt.same {H H' : Hp} {D : Addr} {hs : List Nat} {u d : Nat} (s : Same H H') (h : TelsAt H D hs u d) : TelsAt H' D hs u d := by
  obtain ⟨vs, h1, h2, h3⟩ := h
  refine ⟨vs, s _ _ h1, h2, fun p hp => ?_⟩
  obtain ⟨v, e, t⟩ := h3 p hp
  exact ⟨v, e, t.same s⟩
def spTels : Sp := fun vs H Q _ => ∃ (t : Addr) (v : V) (hs : List Nat) (u d : Nat), vs = [.ref t, v] ∧ H t = some (.tup (nats hs)) ∧ IsTree hs ∧ ViewAt H v u d ∧ ∀ D H', Same H H' → H D = none → TelsAt H' D hs u d → Q (.ref D) H'
theorem ok_tels {f : Addr} {fd : FuncData} (F : Fun K "_law_tellings" "_law_tellings" s__law_tellings f fd) (B : Bl Z mg) {f__law_way : Addr} {fd__law_way : FuncData} (C__law_way : Cal K mg "_law_way" f__law_way fd__law_way ["_law_hung_here", "_law_place"]) (G__law_way : FnOk P w K mg base CX0 1 f__law_way fd__law_way ["_law_hung_here", "_law_place"] (spWay K)) : FnOk P w K mg base CX0 2 f fd ["_law_hung_here", "_law_view_here"] spTels := by
  refine F.ok sc__law_tellings (fun vs H Q E h => ?_) (fun cdv A outer s H vs Q E hr h => ?_)
  · obtain ⟨t, v, hs, u, d, rfl, _⟩ := h
    rfl
  · obtain ⟨t, v, hs, u, d, rfl, et, it, ⟨a, rfl, ha, hu, hd⟩, q⟩ := h
    refine ⟨_, (pss_cons (ps_set (i := 2) sc__law_tellings.nd rfl (Or.inr rfl) (pe_lc (own := [("_law_place", 6)]) rfl sc__law_tellings.nd (pi_range1 rfl B.b_range (pa_cons (pe_op op_add (pe_callB (call_lenK (K := K) rfl) (by rfl) B.b_len PySem.boot_len (pa_cons (pv 0) pa_nil)) pe_int) pa_nil)) (blkOk_by (N := ["_law_hung_here", "_law_view_here", "_law_ties", "_law_ways", "_law_block", "_law_way_here", "_law_place"]) (sc := defScope s__law_tellings) (by decide +kernel)) (fun _ _ _ _ _ => (pg_name (i := 6) sc__law_tellings.nd rfl (Or.inl rfl))) (fun _ _ _ _ _ => pts_nil) (fun _ _ _ _ _ => (pe_lst pa_nil))))
 (pss_cons (ps_set (i := 3) sc__law_tellings.nd rfl (Or.inr rfl) (pe_lst (pa_cons (pe_lst pa_nil) pa_nil)))
 (pss_cons (ps_for PassesOwn.never rfl (pi_range2 rfl B.b_range (pa_cons pe_int (pa_cons (pe_op op_add (pe_callB (call_lenK (K := K) rfl) (by rfl) B.b_len PySem.boot_len (pa_cons (pv 0) pa_nil)) pe_int) pa_nil))) (pg_name (i := 4) sc__law_tellings.nd rfl (Or.inl rfl)) (pss_cons (ps_set (i := 5) sc__law_tellings.nd rfl (Or.inl rfl) (pe_call G__law_way (hr.mono (by first | decide | omega)) (by rfl) C__law_way.g C__law_way.k C__law_way.b .nil pass0 (pa_cons (pv 0) (pa_cons (pv 4) pa_nil))))
 (pss_cons (ps_expr (pe_bmK (K := K) rfl PySem.F.plainAttrs_list PySem.F.slot_list_append PySem.F.type_list_append mt_append (pv 3) (pa_cons (pv 5) pa_nil)))
 (pss_one (ps_for PassesOwn.never rfl (pi_list (pe_slice (sl_listK (K := K) rfl) (pv 5) po_none (po_some (pe_ix (ix_tupK (K := K) rfl) (pv 1) pe_int (fun _ _ => rfl))))) (pg_name (i := 6) sc__law_tellings.nd rfl (Or.inl rfl)) (pss_one (ps_expr (pe_bmK (K := K) rfl PySem.F.plainAttrs_list PySem.F.slot_list_append PySem.F.type_list_append mt_append (pe_ix (ix_listK (K := K) rfl) (pv 2) (pv 6) (fun _ _ => rfl)) (pa_cons (pe_tup (pa_cons (pv 4) (pa_cons (pe_ix (ix_tupK (K := K) rfl) (pv 0) (pe_op op_sub (pv 4) pe_int) (fun _ _ => rfl)) pa_nil))) pa_nil)))))))))
 (pss_one (ps_ret (pe_lc (own := [("_law_place", 6)]) rfl sc__law_tellings.nd (pi_range1 rfl B.b_range (pa_cons (pe_callB (call_lenK (K := K) rfl) (by rfl) B.b_len PySem.boot_len (pa_cons (pv 3) pa_nil)) pa_nil)) (blkOk_by (N := ["_law_hung_here", "_law_view_here", "_law_ties", "_law_ways", "_law_block", "_law_way_here", "_law_place"]) (sc := defScope s__law_tellings) (by decide +kernel)) (fun _ _ _ _ _ => (pg_name (i := 6) sc__law_tellings.nd rfl (Or.inl rfl))) (fun _ _ _ _ _ => pts_nil) (fun _ _ _ _ _ => (pe_tup (pa_cons (pe_callTy (call_tplK (K := K) rfl) (by rfl) B.b_tuple (by decide +kernel) (pa_cons (pe_slice (sl_listK (K := K) rfl) (pe_ix (ix_listK (K := K) rfl) (pv 3) (pv 6) (fun _ _ => rfl)) po_none (po_some (pe_ix (ix_tupK (K := K) rfl) (pv 1) pe_int (fun _ _ => rfl)))) pa_nil)) (pa_cons (pe_callTy (call_tplK (K := K) rfl) (by rfl) B.b_tuple (by decide +kernel) (pa_cons (pe_ix (ix_listK (K := K) rfl) (pv 2) (pv 6) (fun _ _ => rfl)) pa_nil)) pa_nil)))))))))), ?_⟩
    have := it.most
    have hT : SqT K H t (nats hs) := .of et
    have hA : SqT K H a [.int (u : Nat), .int (d : Nat)] := .of ha
    walk_at "h0"
    rw [nats_length]
    refine ⟨_, rfl, by omega, by omega, fun T nT => ?_⟩
    refine lc_range (lo := 0) (n := Int.toNat ((hs.length : Int) + 1)) (fun i H' => Same H H' ∧ ∃ as : List Addr, as.length = i ∧ as.Nodup ∧ T ∉ as ∧ (∀ x ∈ as, H x = none) ∧ (∀ x ∈ as, H' x = some (.lst [])) ∧ H' T = some (.lst (as.map V.ref)))
      ⟨same_new (Same.refl _) nT, [], rfl, List.Pairwise.nil, by simp, by simp, by simp, upd_same⟩ ?_ ?_
    · rintro i H1 hi ⟨s1, as, h1, h2, h3, h4, h5, h6⟩
      walk_at "hs"
      refine ⟨rfl, ?_⟩
      walk_at "hs"
      intro X nX
      have nTX : T ≠ X := ne_of_none h6 nX
      have hX0 : H X = none := s1.free nX
      have ni : X ∉ as := fun z => by
        rw [h5 X z] at nX
        cases nX
      refine ⟨_, keepN h6 nX, by rw [List.length_map]; exact szLt (by omega), same_mut (same_new s1 nX) nT, as ++ [X], by rw [List.length_append, h1]; rfl, ?_, ?_, ?_, ?_, ?_⟩
      · exact List.nodup_append.mpr ⟨h2, List.pairwise_singleton _ _, fun x hx y hy e => ni (by rw [← List.mem_singleton.mp hy, ← e]; exact hx)⟩
      · rw [List.mem_append, List.mem_singleton]
        rintro (z | z)
        · exact h3 z
        · exact nTX z
      · intro x hx
        rcases List.mem_append.mp hx with z | z
        · exact h4 x z
        · rw [List.mem_singleton.mp z]
          exact hX0
      · intro x hx
        rcases List.mem_append.mp hx with z | z
        · refine keepM (fun e => h3 (by rw [← e]; exact z)) (keepN (h5 x z) nX)
        · rw [List.mem_singleton.mp z]
          exact keepM (Ne.symm nTX) upd_same
      · rw [upd_same, List.map_append]
        rfl
    · rintro H1 ⟨s1, as, h1, h2, h3, h4, h5, h6⟩
      have la : as.length = hs.length + 1 := by omega
      have hT1 : SqT K H1 t (nats hs) := .of (s1 _ _ et)
      walk_at "hs"
      intro A0 nA0
      walk_at "hs"
      intro W nW
      have nTA : T ≠ A0 := ne_of_none h6 nA0
      have nTW : T ≠ W := ne_of_none (keepN h6 nA0) nW
      have nAW : A0 ≠ W := ne_of_none upd_same nW
      have nWas : W ∉ as := fun z => by
        have := keepN (o' := .lst []) (h5 W z) nA0
        rw [this] at nW
        cases nW
      have nAas : A0 ∉ as := fun z => by
        rw [h5 A0 z] at nA0
        cases nA0
      have fW : H W = none := s1.free (Same.free (same_new (Same.refl _) nA0) nW)
      have fA : H A0 = none := s1.free nA0
      have eT2 : upd (upd H1 A0 (.lst [])) W (.lst [.ref A0]) T = some (.lst (as.map V.ref)) := keepN (keepN h6 nA0) nW
      have eA2 : upd (upd H1 A0 (.lst [])) W (.lst [.ref A0]) A0 = some (.lst []) := keepN upd_same nW
      have eW2 : upd (upd H1 A0 (.lst [])) W (.lst [.ref A0]) W = some (.lst [.ref A0]) := upd_same
      have s2 : Same H (upd (upd H1 A0 (.lst [])) W (.lst [.ref A0])) := same_new (same_new s1 nA0) nW
      have ts2 : TsAt (upd (upd H1 A0 (.lst [])) W (.lst [.ref A0])) as (fun p => withUp hs (nearI hs d p 0)) := fun p x e => ⟨[], keepN (keepN (h5 x (List.mem_of_getElem? e)) nA0) nW, True.intro⟩
      generalize upd (upd H1 A0 (.lst [])) W (.lst [.ref A0]) = H2 at eT2 eA2 eW2 s2 ts2 ⊢
      have hT2 : SqT K H2 t (nats hs) := .of (s2 _ _ et)
      walk_at "hs"
      rw [nats_length]
      refine ⟨1, (hs.length : Int) + 1, rfl, ⟨by omega, by omega, by omega, by omega⟩, ?_⟩
      refine lp_range (lo := 1) (n := Int.toNat ((hs.length : Int) + 1 - 1)) (fun i σ' H' => (∃ x4 x5 x6, σ' = [some (.ref t), some (.ref a), some (.ref T), some (.ref W), x4, x5, x6]) ∧ Same H H' ∧ H' T = some (.lst (as.map V.ref)) ∧ TsAt H' as (fun p => withUp hs (nearI hs d p i)) ∧
          ∃ ws : List Addr, ws.length = i + 1 ∧ H' W = some (.lst (ws.map V.ref)) ∧ ∀ p x, ws[p]? = some x → H' x = some (.lst (nats (way hs p))) ∧ x ∉ as ∧ x ≠ W ∧ x ≠ T)
        ⟨⟨_, _, _, rfl⟩, s2, eT2, ts2, [A0], rfl, eW2, fun p x e => ?_⟩ ?_ ?_
      · have hp : p = 0 := by
          have := (List.getElem?_eq_some_iff.mp e).1
          have : p < 1 := this
          omega
        subst hp
        have ex : A0 = x := Option.some.inj e
        subst ex
        refine ⟨?_, nAas, nAW, Ne.symm nTA⟩
        unfold way
        rw [wayN_nil]
        exact eA2
      · rintro i σ' H3 hi ⟨⟨x4, x5, x6, rfl⟩, s3, eT3, ts3, ws, lw, eW3, hw⟩
        have ec : ((1 : Int) + (i : Int)) = ((i + 1 : Nat) : Int) := by omega
        have hi2 : i + 1 ≤ hs.length := by omega
        walk_at "hs"
        refine ⟨t, hs, i + 1, by rw [ec]; rfl, .of (s3 _ _ et), it.le, it.most, hi2, fun D H4 s4 nD eD => ?_⟩
        have eT4 := s4 _ _ eT3
        have eW4 := s4 _ _ eW3
        have ts4 := ts3.same s4
        have s04 := s3.trans s4
        walk_at "hs"
        refine x_append eW4 (by rw [List.length_map]; exact szLt (by omega)) ?_
        have nDas : D ∉ as := fun z => by
          obtain ⟨p, hp, e⟩ := List.getElem_of_mem z
          obtain ⟨vs, hv, _⟩ := ts3 p D (by rw [List.getElem?_eq_getElem hp, e])
          rw [hv] at nD
          cases nD
        have nDW : D ≠ W := fun z => by
          rw [z, eW3] at nD
          cases nD
        have nDT : D ≠ T := fun z => by
          rw [z, eT3] at nD
          cases nD
        have eT5 : upd H4 W (.lst (ws.map V.ref ++ [.ref D])) T = some (.lst (as.map V.ref)) := keepM nTW eT4
        have eW5 : upd H4 W (.lst (ws.map V.ref ++ [.ref D])) W = some (.lst ((ws ++ [D]).map V.ref)) := by
          rw [upd_same, List.map_append]
          rfl
        have eD5 : upd H4 W (.lst (ws.map V.ref ++ [.ref D])) D = some (.lst (nats (way hs (i + 1)))) := keepM nDW eD
        have ts5 : TsAt (upd H4 W (.lst (ws.map V.ref ++ [.ref D]))) as (fun p => withUp hs (nearI hs d p i)) := ts4.mut eW4 nWas
        have s5 : Same H (upd H4 W (.lst (ws.map V.ref ++ [.ref D]))) := same_mut s04 fW
        have hw5 : ∀ p x, (ws ++ [D])[p]? = some x → upd H4 W (.lst (ws.map V.ref ++ [.ref D])) x = some (.lst (nats (way hs p))) ∧ x ∉ as ∧ x ≠ W ∧ x ≠ T := fun p x e => by
          by_cases hp : p < ws.length
          · rw [List.getElem?_append_left hp] at e
            obtain ⟨k1, k2, k3, k4⟩ := hw p x e
            exact ⟨keepM k3 (s4 _ _ k1), k2, k3, k4⟩
          · have hl := (List.getElem?_eq_some_iff.mp e).1
            rw [List.length_append] at hl
            have hl : p < ws.length + 1 := hl
            have ep : p = ws.length := by omega
            subst ep
            rw [List.getElem?_append_right (by omega), Nat.sub_self] at e
            have ex : D = x := Option.some.inj e
            subst ex
            rw [lw]
            exact ⟨eD5, nDas, nDW, nDT⟩
        generalize upd H4 W (.lst (ws.map V.ref ++ [.ref D])) = H5 at eT5 eW5 eD5 ts5 s5 hw5 ⊢
        have hD5 : SqL K H5 D (nats (way hs (i + 1))) := .of eD5
        have hA5 : SqT K H5 a [.int (u : Nat), .int (d : Nat)] := .of (s5 _ _ ha)
        walk_at "hs"
        intro S nS
        walk_at "hs"
        rw [cut_take, nats_take, way_take it hi2]
        have eS6 : upd H5 S (.lst (nats (wayN hs d (i + 1)))) S = some (.lst (nats (wayN hs d (i + 1)))) := upd_same
        refine ⟨S, rfl, ⟨_, .of eS6⟩, ?_⟩
        refine lp_list (K := K) (a := S) (xs := nats (wayN hs d (i + 1))) (fun l σ' H' => (∃ x6, σ' = [some (.ref t), some (.ref a), some (.ref T), some (.ref W), some (.int (1 + (i : Int))), some (.ref D), x6]) ∧ Same H H' ∧ H' T = some (.lst (as.map V.ref)) ∧ H' S = some (.lst (nats (wayN hs d (i + 1)))) ∧ S ∉ as ∧
            TsAt H' as (fun p => withUp hs (nearI hs d p i) ++ if p ∈ (wayN hs d (i + 1)).take l then [(i + 1, up hs (i + 1))] else []) ∧
            H' W = some (.lst ((ws ++ [D]).map V.ref)) ∧ ∀ p x, (ws ++ [D])[p]? = some x → H' x = some (.lst (nats (way hs p))) ∧ x ∉ as ∧ x ≠ W ∧ x ≠ T)
          ⟨⟨_, rfl⟩, same_new s5 nS, keepN eT5 nS, upd_same, fun z => ?_, ?_, keepN eW5 nS, fun p x e => ?_⟩ (fun l σ' H' _ h => .of h.2.2.2.1) ?_ ?_
        · obtain ⟨p, hp, e⟩ := List.getElem_of_mem z
          obtain ⟨vs, hv, _⟩ := ts5 p S (by rw [List.getElem?_eq_getElem hp, e])
          rw [hv] at nS
          cases nS
        · refine TsAt.congr (fun p _ => ?_) (ts5.same (same_new (Same.refl _) nS))
          rw [List.take_zero, if_neg (by simp), List.append_nil]
        · obtain ⟨k1, k2⟩ := hw5 p x e
          exact ⟨keepN k1 nS, k2⟩
        · rintro l v σ' H6 hv ⟨⟨x6, rfl⟩, s6, eT6, eS6, nSas, ts6, eW6, hw6⟩
          obtain ⟨p, hp, rfl⟩ : ∃ p : Nat, (wayN hs d (i + 1))[l]? = some p ∧ v = .int p := by
            unfold nats at hv
            rw [List.getElem?_map] at hv
            cases e : (wayN hs d (i + 1))[l]? with
            | none =>
              rw [e] at hv
              cases hv
            | some c =>
              rw [e] at hv
              exact ⟨c, rfl, (Option.some.inj hv).symm⟩
          have hpn : p ≤ hs.length := wayN_le it.le (List.mem_of_getElem? hp)
          have hpa : p < as.length := by omega
          have ep := List.getElem?_eq_getElem hpa
          have hT6 : SqT K H6 t (nats hs) := .of (s6 _ _ et)
          have a0 : atI (nats hs) ((1 : Int) + (i : Int) - 1) = some (.int (up hs (i + 1) : Nat)) := by
            rw [show ((1 : Int) + (i : Int) - 1) = ((i + 1 - 1 : Nat) : Int) by omega]
            exact nats_at (up_get (by omega) hi2)
          have a1 := refs_at ep
          have hL6 : SqL K H6 T (as.map V.ref) := .of eT6
          obtain ⟨vs6, ev6, pv6⟩ := ts6 p as[p] ep
          have hv6 : SqL K H6 as[p] vs6 := .of ev6
          walk_at "hs"
          intro U nU
          walk_at "hs"
          have hne : as[p] ≠ U := ne_of_none ev6 nU
          have lv6 : vs6.length ≤ 100 := by
            rw [pv6.len, List.length_append]
            unfold withUp nearI
            rw [List.length_map]
            have := filter_len (fun b => decide (p ∈ wayN hs d b)) i
            split
            · show _ + 1 ≤ 100
              omega
            · show _ + 0 ≤ 100
              omega
          refine x_append (keepN ev6 nU) (szLt (by omega)) ?_
          walk_at "hs"
          have nd := wayN_nodup it (n := d) hi2
          have s7 : Same H6 (upd H6 U (.tup [.int (1 + (i : Int)), .int (up hs (i + 1) : Nat)])) := same_new (Same.refl _) nU
          have mem : as[p] ∈ as := List.getElem_mem hpa
          have fa : H as[p] = none := h4 _ mem
          refine ⟨⟨_, rfl⟩, same_mut (same_new s6 nU) fa, keepM (fun z => h3 (by rw [z]; exact mem)) (s7 _ _ eT6), keepM (fun z => nSas (by rw [z]; exact mem)) (s7 _ _ eS6), nSas, ?_, keepM (fun z => nWas (by rw [z]; exact mem)) (s7 _ _ eW6), fun p' x e => ?_⟩
          · have st := TsAt.step (q := p) (x := (i + 1, up hs (i + 1))) (U := U) (vs := vs6) h2 (ts6.same s7) ep (by rw [upd_same, ec]) (keepN ev6 nU) (pv6.same s7)
            refine TsAt.congr (fun p' _ => ?_) st
            rw [take_snoc hp]
            by_cases e1 : p' = p
            · subst e1
              have n1 : p' ∉ (wayN hs d (i + 1)).take l := fun z => by
                obtain ⟨m, hm, em⟩ := List.getElem_of_mem z
                rw [List.length_take] at hm
                rw [List.getElem_take] at em
                have hl := (List.getElem?_eq_some_iff.mp hp).1
                have := (List.getElem?_inj (i := m) (j := l) (by omega) nd).mp (by rw [List.getElem?_eq_getElem (by omega), em, hp])
                omega
              rw [if_neg n1, if_pos rfl, if_pos (by simp), List.append_nil]
            · rw [if_neg e1, List.append_nil]
              congr 1
              by_cases e2 : p' ∈ (wayN hs d (i + 1)).take l
              · rw [if_pos e2, if_pos (List.mem_append.mpr (.inl e2))]
              · rw [if_neg e2, if_neg (fun z => (List.mem_append.mp z).elim e2 fun z => e1 (List.mem_singleton.mp z))]
          · obtain ⟨k1, k2, k3⟩ := hw6 p' x e
            exact ⟨keepM (fun z => k2 (by rw [z]; exact mem)) (s7 _ _ k1), k2, k3⟩
        · rintro σ' H6 ⟨⟨x6, rfl⟩, s6, eT6, eS6, nSas, ts6, eW6, hw6⟩
          walk_at "hs"
          refine ⟨⟨_, _, _, rfl⟩, s6, eT6, ?_, ws ++ [D], by rw [List.length_append, lw]; rfl, eW6, hw6⟩
          refine TsAt.congr (fun p _ => ?_) ts6
          rw [nats_length, List.take_length, ← nearI_snoc]
      · rintro σ' H3 ⟨⟨x4, x5, x6, rfl⟩, s3, eT3, ts3, ws, lw, eW3, hw⟩
        have en : Int.toNat ((hs.length : Int) + 1 - 1) = hs.length := by omega
        rw [en] at ts3 lw
        have hW3 : SqL K H3 W (ws.map V.ref) := .of eW3
        have hL3 : SqL K H3 T (as.map V.ref) := .of eT3
        have hA3 : SqT K H3 a [.int (u : Nat), .int (d : Nat)] := .of (s3 _ _ ha)
        walk_at "hs"
        rw [List.length_map, lw]
        refine ⟨_, rfl, by omega, by omega, fun R nR => ?_⟩
        refine lc_range (lo := 0) (n := Int.toNat ((hs.length + 1 : Nat) : Int)) (fun i H' => Same H3 H' ∧ ∃ vs, H' R = some (.lst vs) ∧ vs.length = i ∧ ∀ p, p < i → ∃ v, vs[p]? = some v ∧ TelAt H' v (wayN hs u p) (tiesN hs d p)) ⟨same_new (Same.refl _) nR, [], upd_same, rfl, fun p h => absurd h (Nat.not_lt_zero _)⟩ ?_ ?_
        · rintro i H4 hi ⟨s4, vs, eR, lv, hv⟩
          have hi2 : i < hs.length + 1 := by omega
          have ew := List.getElem?_eq_getElem (show i < ws.length by omega)
          have ea := List.getElem?_eq_getElem (show i < as.length by omega)
          have b1 : atI (ws.map V.ref) ((0 : Int) + (i : Int)) = some (.ref ws[i]) := by
            rw [show ((0 : Int) + (i : Int)) = ((i : Nat) : Int) by omega]
            exact refs_at ew
          have b2 : atI (as.map V.ref) ((0 : Int) + (i : Int)) = some (.ref as[i]) := by
            rw [show ((0 : Int) + (i : Int)) = ((i : Nat) : Int) by omega]
            exact refs_at ea
          have hW4 : SqL K H4 W (ws.map V.ref) := s4.seq hW3
          have hL4 : SqL K H4 T (as.map V.ref) := s4.seq hL3
          have hA4 : SqT K H4 a [.int (u : Nat), .int (d : Nat)] := s4.seqT hA3
          obtain ⟨k1, _, _, _⟩ := hw i _ ew
          obtain ⟨ps, e1, e2⟩ := ts3 i _ ea
          have g1 : SqL K H4 ws[i] (nats (way hs i)) := .of (s4 _ _ k1)
          have g2 : SqL K H4 as[i] ps := .of (s4 _ _ e1)
          walk_at "hs"
          refine ⟨rfl, ?_⟩
          walk_at "hs"
          intro X nX
          rw [cut_take, nats_take, way_take it (by omega)]
          walk_at "hs"
          intro Y nY
          have hL5 : SqL K (upd (upd H4 X (.lst (nats (wayN hs u i)))) Y (.tup (nats (wayN hs u i)))) T (as.map V.ref) := keepLN (keepLN hL4 nX) nY
          have g3 : SqL K (upd (upd H4 X (.lst (nats (wayN hs u i)))) Y (.tup (nats (wayN hs u i)))) as[i] ps := keepLN (keepLN g2 nX) nY
          walk_at "hs"
          intro M nM
          walk_at "hs"
          intro O nO
          have s5 : Same H4 (upd (upd (upd (upd H4 X (.lst (nats (wayN hs u i)))) Y (.tup (nats (wayN hs u i)))) M (.tup ps)) O (.tup [.ref Y, .ref M])) := same_new (same_new (same_new (same_new (Same.refl _) nX) nY) nM) nO
          have tO : TelAt (upd (upd (upd (upd H4 X (.lst (nats (wayN hs u i)))) Y (.tup (nats (wayN hs u i)))) M (.tup ps)) O (.tup [.ref Y, .ref M])) (.ref O) (wayN hs u i) (tiesN hs d i) := ⟨O, Y, M, ps, rfl, upd_same, keepN (keepN upd_same nM) nO, keepN upd_same nO, (e2.same s4).same s5⟩
          have eR5 := s5 _ _ eR
          generalize upd (upd (upd (upd H4 X (.lst (nats (wayN hs u i)))) Y (.tup (nats (wayN hs u i)))) M (.tup ps)) O (.tup [.ref Y, .ref M]) = H5 at s5 tO eR5 ⊢
          have mutT : ∀ {z : V} {r ts}, TelAt H5 z r ts → TelAt (upd H5 R (.lst (vs ++ [.ref O]))) z r ts := fun {z r ts} ⟨x1, x2, x3, zs, f1, f2, f3, f4, f5⟩ => by
            have nz : ∀ {x : Addr} {l : List V}, H5 x = some (.tup l) → x ≠ R := fun {x l} h z => by
              rw [z, eR5] at h
              cases h
            exact ⟨x1, x2, x3, zs, f1, keepM (nz f2) f2, keepM (nz f3) f3, keepM (nz f4) f4, f5.mut eR5⟩
          refine ⟨vs, eR5, szLt (by omega), same_mut (s4.trans s5) nR, vs ++ [.ref O], upd_same, by rw [List.length_append, lv]; rfl, fun p hp => ?_⟩
          by_cases hp2 : p < i
          · obtain ⟨v, hv1, hv2⟩ := hv p hp2
            exact ⟨v, by rw [List.getElem?_append_left (by omega)]; exact hv1, mutT (hv2.same s5)⟩
          · have ep : p = i := by omega
            subst ep
            refine ⟨.ref O, ?_, mutT tO⟩
            rw [List.getElem?_append_right (by omega), lv, Nat.sub_self]
            rfl
        · rintro H4 ⟨s4, vs, eR, lv, hv⟩
          rw [Int.toNat_natCast] at lv hv
          exact q R H4 (s3.trans s4) (s3.free nR) ⟨vs, eR, lv, fun p hp => hv p (by omega)⟩
end
set_option maxRecDepth 100000
set_option maxHeartbeats 4000000
open PySem PySem.Spec L2


section
variable {P : Program} {w : World} {K : PySem.W.Frag} {mg : Str → Option Value} {base : Heap} {Z : Ad}
def spMv (Z : Ad) : Sp := fun vs H Q _ => ∃ (x : Addr) (hs : List Nat) (b p : Nat), vs = [.ref x, .int b, .int p] ∧ TreeAt Z H x hs ∧ IsTree hs ∧ 1 ≤ b ∧ b ≤ hs.length ∧ p ≤ hs.length ∧
  (p ≠ b → b ∉ way hs p → ∀ D H', Same H H' → H' D = some (.tup (nats (put hs b p))) → Q (.ref D) H') ∧ ((p = b ∨ b ∈ way hs p) → ∀ H', Same H H' → Q .non H')
def spCl (K : PySem.W.Frag) : Sp := fun vs H Q _ => ∃ (a t : Addr) (hs ms : List Nat), vs = [.ref a, .ref t] ∧ H a = some (.tup (nats hs)) ∧ SqT K H t (nats ms) ∧ IsTree hs ∧ IsOrd hs.length ms ∧ ∀ D H', Same H H' → H' D = some (.tup (nats (call2 hs ms))) → Q (.ref D) H'
theorem TreeAt.pool {H H' : Hp} {p x : Addr} {F : Addr → Prop} {hs : List Nat} (hp : PoolAt H p F) (b : But p H H') (h : TreeAt Z H x hs) : TreeAt Z H' x hs := by
  obtain ⟨zs, ep⟩ := hp.lst
  obtain ⟨dx, t, h1, h2⟩ := h
  refine ⟨dx, t, b _ _ (fun e => ?_) h1, b _ _ (fun e => ?_) h2⟩
  · subst e
    rw [h1] at ep
    cases ep
  · subst e
    rw [h2] at ep
    cases ep
theorem tup_pool {H H' : Hp} {p x : Addr} {F : Addr → Prop} {xs : List V} (hp : PoolAt H p F) (b : But p H H') (h : H x = some (.tup xs)) : H' x = some (.tup xs) := by
  obtain ⟨zs, ep⟩ := hp.lst
  refine b _ _ (fun e => ?_) h
  subst e
  rw [h] at ep
  cases ep
def spRight (Z : Ad) : Sp := fun vs H Q _ => ∃ (p x a : Addr) (hs : List Nat) (F : Addr → Prop), vs = [.ref p, .ref x, .ref a] ∧ PoolAt H p F ∧ TreeAt Z H x hs ∧ IsTree hs ∧ H a = some (.tup (nats hs)) ∧ ∀ H', But p H H' → PoolAt H' p F → Q (.bl true) H'
end
set_option maxRecDepth 100000
set_option maxHeartbeats 2000000
open PySem PySem.Spec L2


section
variable {P : Program} {w : World} {K : PySem.W.Frag} {mg : Str → Option Value} {base : Heap} {Z : Ad}
theorem ViewAt.pool {H H' : Hp} {p : Addr} {F : Addr → Prop} {v : V} {u d : Nat} (hp : PoolAt H p F) (b : But p H H') (h : ViewAt H v u d) : ViewAt H' v u d := by
  obtain ⟨a, e, h, k⟩ := h
  exact ⟨a, e, tup_pool hp b h, k⟩
def spView2 : Sp := fun vs H Q _ => ∃ (p : Addr) (F : Addr → Prop), vs = [.ref p] ∧ PoolAt H p F ∧ ∀ (v : V) (u d : Nat) H', But p H H' → PoolAt H' p F → ViewAt H' v u d → Q v H'
theorem ok_view2 {f : Addr} {fd : FuncData} (F : Fun K "_law_view" "_law_view" s__law_view f fd) (B : Bl Z mg) {f__law_draw : Addr} {fd__law_draw : FuncData} (C__law_draw : Cal K mg "_law_draw" f__law_draw fd__law_draw ["_law_pool_here", "_law_many"]) (G__law_draw : FnOk P w K mg base CX0 1 f__law_draw fd__law_draw ["_law_pool_here", "_law_many"] spDraw) : FnOk P w K mg base CX0 2 f fd ["_law_pool_here"] spView2 := by
  refine F.ok sc__law_view (fun vs H Q E h => ?_) (fun cdv A outer s H vs Q E hr h => ?_)
  · obtain ⟨p, Fo, rfl, _⟩ := h
    rfl
  · obtain ⟨p, Fo, rfl, hp, q⟩ := h
    refine ⟨_, (pss_one (ps_ret (pe_tup (pa_cons (pe_call G__law_draw (hr.mono (by first | decide | omega)) (by rfl) C__law_draw.g C__law_draw.k C__law_draw.b .nil pass0 (pa_cons (pv 0) (pa_cons pe_int pa_nil))) (pa_cons (pe_call G__law_draw (hr.mono (by first | decide | omega)) (by rfl) C__law_draw.g C__law_draw.k C__law_draw.b .nil pass0 (pa_cons (pv 0) (pa_cons pe_int pa_nil))) pa_nil))))), ?_⟩
    walk_at "h0"
    refine ⟨p, _, _, rfl, hp, by decide, by decide, fun d H2 d0 d1 b2 hp2 => ?_⟩
    obtain ⟨k, rfl⟩ := Int.eq_ofNat_of_zero_le d0
    walk_at "hs"
    refine ⟨p, _, _, rfl, hp2, by decide, by decide, fun e H3 e0 e1 b3 hp3 => ?_⟩
    obtain ⟨l, rfl⟩ := Int.eq_ofNat_of_zero_le e0
    walk_at "hs"
    intro U nU
    exact q _ k l _ ((b2.trans b3).new nU) (hp3.newH nU) ⟨U, rfl, upd_same, by omega, by omega⟩
def spUnl : Sp := fun vs H Q _ => ∃ (t t' : Addr) (v : V) (hs gs : List Nat) (u d : Nat), vs = [.ref t, .ref t', v] ∧ H t = some (.tup (nats hs)) ∧ H t' = some (.tup (nats gs)) ∧ IsTree hs ∧ IsTree gs ∧ hs.length = gs.length ∧ ViewAt H v u d ∧ ∀ D H', Same H H' → H' D = some (.tup (nats (unlikeN hs gs u d))) → Q (.ref D) H'
theorem ok_unl {f : Addr} {fd : FuncData} (F : Fun K "_law_unlike" "_law_unlike" s__law_unlike f fd) (B : Bl Z mg) {f__law_tellings : Addr} {fd__law_tellings : FuncData} (C__law_tellings : Cal K mg "_law_tellings" f__law_tellings fd__law_tellings ["_law_hung_here", "_law_view_here"]) (G__law_tellings : FnOk P w K mg base CX0 2 f__law_tellings fd__law_tellings ["_law_hung_here", "_law_view_here"] spTels) : FnOk P w K mg base CX0 3 f fd ["_law_one", "_law_other", "_law_view_here"] spUnl := by
  refine F.ok sc__law_unlike (fun vs H Q E h => ?_) (fun cdv A outer s H vs Q E hr h => ?_)
  · obtain ⟨t, t', v, hs, gs, u, d, rfl, _⟩ := h
    rfl
  · obtain ⟨t, t', v, hs, gs, u, d, rfl, et, et', it, it', hl, hv, q⟩ := h
    refine ⟨_, (pss_cons (ps_asg (pe_tup (pa_cons (pe_call G__law_tellings (hr.mono (by first | decide | omega)) (by rfl) C__law_tellings.g C__law_tellings.k C__law_tellings.b .nil pass0 (pa_cons (pv 0) (pa_cons (pv 2) pa_nil))) (pa_cons (pe_call G__law_tellings (hr.mono (by first | decide | omega)) (by rfl) C__law_tellings.g C__law_tellings.k C__law_tellings.b .nil pass0 (pa_cons (pv 1) (pa_cons (pv 2) pa_nil))) pa_nil))) (pg_tup rfl (pgs_cons (pg_name (i := 3) sc__law_unlike.nd rfl (Or.inr rfl)) (pgs_cons (pg_name (i := 4) sc__law_unlike.nd rfl (Or.inr rfl)) pgs_nil))))
 (pss_one (ps_ret (pe_callTy (call_tplK (K := K) rfl) (by rfl) B.b_tuple (by decide +kernel) (pa_cons (pe_lc (own := [("_law_place", 5)]) rfl sc__law_unlike.nd (pi_range1 rfl B.b_range (pa_cons (pe_callB (call_lenK (K := K) rfl) (by rfl) B.b_len PySem.boot_len (pa_cons (pv 3) pa_nil)) pa_nil)) (blkOk_by (N := ["_law_one", "_law_other", "_law_view_here", "_law_first", "_law_second", "_law_place"]) (sc := defScope s__law_unlike) (by decide +kernel)) (fun _ _ _ _ _ => (pg_name (i := 5) sc__law_unlike.nd rfl (Or.inl rfl))) (fun _ _ _ _ _ => (pts_one (pt_cmpR (op_neDK (K := K) rfl hr.units) (pe_ix (ix_listK (K := K) rfl) (pv 3) (pv 5) (fun _ _ => rfl)) (pe_ix (ix_listK (K := K) rfl) (pv 4) (pv 5) (fun _ _ => rfl)) (nomark _)))) (fun _ _ _ _ _ => (pv 5))) pa_nil))))), ?_⟩
    have := it.most
    walk_at "h0"
    refine ⟨t, v, hs, u, d, rfl, et, it, hv, fun A1 H1 s1 _ t1 => ?_⟩
    walk_at "hs"
    refine ⟨t', v, gs, u, d, rfl, s1 _ _ et', it', hv.same s1, fun A2 H2 s2 _ t2 => ?_⟩
    walk_at "hs"
    intro U nU
    have s3 : Same H2 (upd H2 U (.tup [.ref A1, .ref A2])) := same_new (Same.refl _) nU
    have eU : upd H2 U (.tup [.ref A1, .ref A2]) U = some (.tup [.ref A1, .ref A2]) := upd_same
    have s03 : Same H (upd H2 U (.tup [.ref A1, .ref A2])) := (s1.trans s2).trans s3
    have t13 := t1.same (s2.trans s3)
    have t23 := t2.same s3
    generalize upd H2 U (.tup [.ref A1, .ref A2]) = H3 at s3 eU s03 t13 t23 ⊢
    have hU : SqT K H3 U [.ref A1, .ref A2] := .of eU
    obtain ⟨vs, ev, lv, hvs⟩ := t13
    obtain ⟨ws, ew, lw, hws⟩ := t23
    have hL1 : SqL K H3 A1 vs := .of ev
    have hL2 : SqL K H3 A2 ws := .of ew
    walk_at "hs"
    rw [lv]
    refine ⟨_, rfl, by omega, by omega, fun D nD => ?_⟩
    refine lc_range (lo := 0) (n := Int.toNat ((hs.length + 1 : Nat) : Int)) (fun i H' => Same H3 H' ∧ H' D = some (.lst (nats ((List.range i).filter fun p => !telD hs gs u d p))))
      ⟨same_new (Same.refl _) nD, upd_same⟩ ?_ ?_
    · rintro i H4 hi ⟨s4, eD⟩
      have ec : ((0 : Int) + (i : Int)) = ((i : Nat) : Int) := by omega
      obtain ⟨x, ex, tx⟩ := hvs i (by omega)
      obtain ⟨y, ey, ty⟩ := hws i (by omega)
      have a1 : atI vs ((0 : Int) + (i : Int)) = some x := by
        rw [ec]
        exact atI_nat ex
      have a2 : atI ws ((0 : Int) + (i : Int)) = some y := by
        rw [ec]
        exact atI_nat ey
      have g1 := s4.seq hL1
      have g2 := s4.seq hL2
      walk_at "hs"
      refine ⟨rfl, ?_⟩
      walk_at "hs"
      refine x_neTel (tx.same s4) (ty.same s4) ?_
      have lb : ((List.range i).filter fun p => !telD hs gs u d p).length ≤ 41 := by
        have := List.length_filter_le (fun p => !telD hs gs u d p) (List.range i)
        rw [List.length_range] at this
        omega
      have fs := range0_snoc (fun p => !telD hs gs u d p) i
      show ∃ k, V.bl (!telD hs gs u d i) = .bl k ∧ _
      cases ht : telD hs gs u d i with
      | true =>
        walk_at "hs"
        refine ⟨s4, ?_⟩
        rw [eD, fs, ht]
        simp
      | false =>
        walk_at "hs"
        refine ⟨_, eD, by rw [nats_length]; exact szLt (by omega), same_mut s4 nD, ?_⟩
        rw [upd_same, fs, ht, ec, nats_append]
        rfl
    · rintro H4 ⟨s4, eD⟩
      rw [Int.toNat_natCast] at eD
      have hL : SqL K H4 D (nats (unlikeN hs gs u d)) := .of eD
      walk_at "hs"
      intro V hV
      exact q V _ (same_new (s03.trans s4) hV) upd_same
def spSeen (Z : Ad) : Sp := fun vs H Q _ => ∃ (x y : Addr) (v : V) (hs : List Nat) (u d b q' : Nat), vs = [.ref x, .ref y, v, .int b, .int q'] ∧ TreeAt Z H x hs ∧ IsTree hs ∧ TreeAt Z H y (put hs b q') ∧ ViewAt H v u d ∧ 1 ≤ b ∧ b ≤ hs.length ∧ q' ≤ hs.length ∧ q' ≠ b ∧ b ∉ way hs q' ∧ ∀ H', Same H H' → Q (.bl true) H'
def spNamed (Z : Ad) : Sp := fun vs H Q _ => ∃ (p x y a : Addr) (v : V) (hs gs : List Nat) (u d : Nat) (F : Addr → Prop), vs = [.ref p, .ref x, .ref y, v, .ref a] ∧ PoolAt H p F ∧ TreeAt Z H x hs ∧ IsTree hs ∧ TreeAt Z H y gs ∧ IsTree gs ∧ hs.length = gs.length ∧ ViewAt H v u d ∧ H a = some (.tup (nats (unlikeN hs gs u d))) ∧ ∀ H', But p H H' → PoolAt H' p F → Q (.bl true) H'
end
set_option maxRecDepth 100000
set_option maxHeartbeats 2000000
open PySem PySem.Spec L2


theorem sc__law_distance : FnScope ["_law_view_here"] ["_law_view_here"] (defScope s__law_distance) := ⟨rfl, rfl, rfl, by decide +kernel, rfl, by decide +kernel, by decide +kernel⟩
theorem sc__law_are_twins : FnScope ["_law_told", "_law_view_here", "_law_many", "_law_one", "_law_other", "_law_apart"] ["_law_told", "_law_view_here", "_law_many"] (defScope s__law_are_twins) := ⟨rfl, rfl, rfl, by decide +kernel, rfl, by decide +kernel, by decide +kernel⟩
section
variable {P : Program} {w : World} {K : PySem.W.Frag} {mg : Str → Option Value} {base : Heap} {Z : Ad}
theorem x_eqTel {H : Hp} {Q : VK} {x y : V} {r r' : List Nat} {ts ts' : List (Nat × Nat)} (h1 : TelAt H x r ts) (h2 : TelAt H y r' ts') (q : Q (.bl (decide (r = r') && decide (ts = ts'))) H) : rEqD K x y H Q := by
  refine ⟨telPD r ts, telPD r' ts', h1.dp, h2.dp, telPD_shaped _ _, telPD_shaped _ _, ?_⟩
  rw [telPD_eqv]
  exact q
def spIsTree : Sp := fun vs H Q _ => ∃ (t : Addr) (hs : List Nat), vs = [.ref t] ∧ H t = some (.tup (nats hs)) ∧ (∀ x ∈ hs, x ≤ hs.length) ∧ hs.length ≤ 40 ∧ Q (.bl (isT hs)) H
def spAll : Sp := fun vs H Q _ => ∃ (n : Nat), vs = [.int n] ∧ 1 ≤ n ∧ n ≤ 4 ∧ ∀ D H' ws, Same H H' → H D = none → H' D = some (.lst ws) → RowsV H' ws (allTrees n) → Q (.ref D) H'
def spDist2 : Sp := fun vs H Q _ => ∃ (v : V) (u d : Nat), vs = [v] ∧ ViewAt H v u d ∧ Q (.int (dist u d : Nat)) H
theorem ok_dist2 {f : Addr} {fd : FuncData} (F : Fun K "_law_distance" "_law_distance" s__law_distance f fd) (B : Bl Z mg) : FnOk P w K mg base CX0 1 f fd ["_law_view_here"] spDist2 := by
  refine F.ok sc__law_distance (fun vs H Q E h => ?_) (fun cdv A outer s H vs Q E hr h => ?_)
  · obtain ⟨v, u, d, rfl, _⟩ := h
    rfl
  · obtain ⟨v, u, d, rfl, ⟨a, rfl, ha, hu, hd⟩, q⟩ := h
    have hT : SqT K H a [.int (u : Nat), .int (d : Nat)] := .of ha
    have fin : ∀ z : Int, z = ((dist u d : Nat) : Int) → Q (.int z) H := fun z e => by
      rw [e]
      exact q
    unfold dist at fin
    refine ⟨_, (pss_cons (ps_if (pt_cmpR op_eq (pe_ix (ix_tupK (K := K) rfl) (pv 0) pe_int (fun _ _ => rfl)) pe_int (nomark _)) (pss_one (ps_ret (pe_callTy call_int (by rfl) B.b_int (by decide +kernel) (pa_cons (pe_cmpR op_gt (pe_ix (ix_tupK (K := K) rfl) (pv 0) pe_int (fun _ _ => rfl)) pe_int (nomark _)) pa_nil)))) pss_nil)
 (pss_one (ps_ret (pe_op op_add (pe_op op_add (pe_ix (ix_tupK (K := K) rfl) (pv 0) pe_int (fun _ _ => rfl)) pe_int) (pe_callTy call_int (by rfl) B.b_int (by decide +kernel) (pa_cons (pe_cmpR op_gt (pe_ix (ix_tupK (K := K) rfl) (pv 0) pe_int (fun _ _ => rfl)) pe_int (nomark _)) pa_nil)))))), ?_⟩
    walk_at "h0"
    refine x_isd (fun c => ?_) (fun c => ?_)
    · walk_at "hs"
      refine .inr ⟨_, rfl, fin _ ?_⟩
      by_cases h : 0 < u
      · rw [decide_eq_true (show (u : Int) > 0 by omega), if_pos rfl, if_pos h, if_neg (by omega)]
        rfl
      · rw [decide_eq_false (show ¬ (u : Int) > 0 by omega), if_neg Bool.false_ne_true, if_neg h, if_neg (by omega)]
        rfl
    · walk_at "hs"
      refine .inr ⟨_, rfl, ?_⟩
      walk_at "hs"
      refine fin _ ?_
      by_cases h : 0 < u
      · rw [decide_eq_true (show (u : Int) > 0 by omega), if_pos rfl, if_pos h, if_pos (by omega)]
        omega
      · rw [decide_eq_false (show ¬ (u : Int) > 0 by omega), if_neg Bool.false_ne_true, if_neg h, if_pos (by omega)]
        omega
def spAre (Z : Ad) : Sp := fun vs H Q _ => ∃ (r v : V) (u d n : Nat), vs = [r, v, .int n] ∧ ViewAt H v u d ∧ 1 ≤ n ∧ n ≤ 40 ∧ (n < d + 2 → r = .non) ∧ (d + 2 ≤ n → TwinsAt Z H r n d) ∧ ∀ H', Same H H' → Q (.bl true) H'
theorem ok_are {f : Addr} {fd : FuncData} (F : Fun K "_law_are_twins" "_law_are_twins" s__law_are_twins f fd) (B : Bl Z mg) (I : IsC K Z.a_Tree) (T : Cls K Z.a_Tree) (N : NoAttr K Z.a_Tree "hung") {f__law_unlike : Addr} {fd__law_unlike : FuncData} (C__law_unlike : Cal K mg "_law_unlike" f__law_unlike fd__law_unlike ["_law_one", "_law_other", "_law_view_here"]) (G__law_unlike : FnOk P w K mg base CX0 3 f__law_unlike fd__law_unlike ["_law_one", "_law_other", "_law_view_here"] spUnl)
    {f__law_distance : Addr} {fd__law_distance : FuncData} (C__law_distance : Cal K mg "_law_distance" f__law_distance fd__law_distance ["_law_view_here"]) (G__law_distance : FnOk P w K mg base CX0 1 f__law_distance fd__law_distance ["_law_view_here"] spDist2) : FnOk P w K mg base CX0 4 f fd ["_law_told", "_law_view_here", "_law_many"] (spAre Z) := by
  refine F.ok sc__law_are_twins (fun vs H Q E h => ?_) (fun cdv A outer s H vs Q E hr h => ?_)
  · obtain ⟨r, v, u, d, n, rfl, _⟩ := h
    rfl
  · obtain ⟨r, v, u, d, n, rfl, hv, n1, n2, k1, k2, q⟩ := h
    obtain ⟨a, rfl, ha, hu, hd⟩ := id hv
    have hT : SqT K H a [.int (u : Nat), .int (d : Nat)] := .of ha
    refine ⟨_, (pss_cons (ps_if (pt_cmpR op_lt (pv 2) (pe_op op_add (pe_ix (ix_tupK (K := K) rfl) (pv 1) pe_int (fun _ _ => rfl)) pe_int) (nomark _)) (pss_one (ps_ret (pe_cmpR op_isNk (pv 0) pe_non (nomark _)))) pss_nil)
 (pss_cons (ps_if (PW.pt (pw_or (pt_not (pt_val (pe_callB (call_isiK' (K := K) rfl) (by rfl) B.b_isinstance (by decide +kernel) (pa_cons (pv 0) (pa_cons (pe_bltn (v := .ty "tuple") (by rfl) B.b_tuple (by decide +kernel) rfl) pa_nil))))) (pw_or (pt_cmpR op_ne (pe_callB (call_lenK (K := K) rfl) (by rfl) B.b_len PySem.boot_len (pa_cons (pv 0) pa_nil)) pe_int (nomark _)) (pw_or1 (pt_not (pt_val (pe_callB (cr_allK (K := K) rfl rfl) (by rfl) B.b_all (by decide +kernel) (pa_cons (pe_lc (own := [("_law_one", 3)]) rfl sc__law_are_twins.nd (pi_tup (pv 0)) (blkOk_by (N := ["_law_told", "_law_view_here", "_law_many", "_law_one", "_law_other", "_law_apart"]) (sc := defScope s__law_are_twins) (by decide +kernel)) (fun _ _ _ _ _ => (pg_name (i := 3) sc__law_are_twins.nd rfl (Or.inl rfl))) (fun _ _ _ _ _ => pts_nil) (fun _ _ _ _ _ => (pe_callB (call_isiK' (K := K) rfl) (by rfl) B.b_isinstance (by decide +kernel) (pa_cons (pv 3) (pa_cons (pe_glob (v := .ref Z.a_Tree) rfl B.k_Tree rfl) pa_nil))))) pa_nil)))))))) (pss_one (ps_ret pe_bl)) pss_nil)
 (pss_cons (ps_par (i := 3) (j := 4) (by rfl) sc__law_are_twins.nd rfl rfl (by decide) rfl rfl (pa_cons (pe_fldK (K := K) rfl (pe_ix (ix_tupK (K := K) rfl) (pv 0) pe_int (fun _ _ => rfl)) rfl) (pa_cons (pe_fldK (K := K) rfl (pe_ix (ix_tupK (K := K) rfl) (pv 0) pe_int (fun _ _ => rfl)) rfl) pa_nil)) (by rfl))
 (pss_cons (ps_if (PW.pt (pw_or (pt_cmpR op_ne (pe_callB (call_lenK (K := K) rfl) (by rfl) B.b_len PySem.boot_len (pa_cons (pv 3) pa_nil)) (pv 2) (nomark _)) (pw_or (pt_cmpR op_ne (pe_callB (call_lenK (K := K) rfl) (by rfl) B.b_len PySem.boot_len (pa_cons (pv 4) pa_nil)) (pv 2) (nomark _)) (pw_or1 (pt_cmpR (op_eqDK (K := K) rfl hr.units) (pv 3) (pv 4) (nomark _)))))) (pss_one (ps_ret pe_bl)) pss_nil)
 (pss_cons (ps_set (i := 5) sc__law_are_twins.nd rfl (Or.inl rfl) (pe_call G__law_unlike (hr.mono (by first | decide | omega)) (by rfl) C__law_unlike.g C__law_unlike.k C__law_unlike.b .nil pass0 (pa_cons (pv 3) (pa_cons (pv 4) (pa_cons (pv 1) pa_nil)))))
 (pss_one (ps_ret (pe_and (pe_cmpR (op_notInK (K := K) rfl) pe_int (pv 5) (by rfl)) (pe_one (pe_cmpR op_eq (pe_callB (call_lenK (K := K) rfl) (by rfl) B.b_len PySem.boot_len (pa_cons (pv 5) pa_nil)) (pe_call G__law_distance (hr.mono (by first | decide | omega)) (by rfl) C__law_distance.g C__law_distance.k C__law_distance.b .nil pass0 (pa_cons (pv 1) pa_nil)) (nomark _))))))))))), ?_⟩
    walk_at "h0"
    refine x_isd (fun c => ?_) (fun c => ?_)
    · have e := k1 (by omega)
      subst e
      walk_at "hs"
      exact q _ (Same.refl _)
    · have hdn : d + 2 ≤ n := by omega
      obtain ⟨D, x, y, rfl, eD, hx, hy⟩ := k2 hdn
      have hD : SqT K H D [.ref x, .ref y] := .of eD
      walk_at "hs"
      refine x_isd (fun c => (c rfl).elim) (fun _ => ?_)
      walk_at "hs"
      refine ⟨D, rfl, ⟨_, hD⟩, fun M nM => ?_⟩
      refine lc_tup (K := K) (xs := [.ref x, .ref y]) (fun i H' => Same H H' ∧ H' M = some (.lst ((List.replicate i true).map V.bl))) ⟨same_new (Same.refl _) nM, upd_same⟩ (fun i H' _ h => h.1.seqT hD) ?_ ?_
      · rintro i z H1 hz ⟨s1, eM⟩
        obtain ⟨m, gs, rfl, hm⟩ : ∃ m gs, z = .ref m ∧ TreeAt Z H1 m gs := by
          rcases List.mem_cons.mp (List.mem_of_getElem? hz) with e | e
          · exact ⟨x, _, e, hx.same s1⟩
          · exact ⟨y, _, List.mem_singleton.mp e, hy.same s1⟩
        have hi : i < 2 := (List.getElem?_eq_some_iff.mp hz).1
        obtain ⟨dm, t, h1, h2⟩ := id hm
        walk_at "hs"
        refine ⟨rfl, ?_⟩
        walk_at "hs"
        refine isi_own I h1 ?_
        refine ⟨_, eM, by rw [List.length_map, List.length_replicate]; exact szLt (by omega), same_mut s1 nM, ?_⟩
        rw [upd_same, List.replicate_succ', List.map_append]
        rfl
      · rintro H1 ⟨s1, eM⟩
        refine ⟨M, _, rfl, .of eM, ?_⟩
        rw [show (List.replicate ([.ref x, .ref y] : List V).length true).all id = true by simp]
        obtain ⟨dx, t, h1, h2⟩ := hx.same s1
        obtain ⟨dy, t', h1', h2'⟩ := hy.same s1
        have hD1 : SqT K H1 D [.ref x, .ref y] := s1.seqT hD
        walk_at "hs"
        refine ⟨x, _, dx, _, _, rfl, h1, T, N, rfl, ?_⟩
        walk_at "hs"
        refine ⟨y, _, dy, _, _, rfl, h1', T, N, rfl, ?_⟩
        have hA : SqT K H1 t (nats (twin n d d)) := .of h2
        have hB : SqT K H1 t' (nats (twin n d (d + 1))) := .of h2'
        walk_at "hs"
        rw [nats_length, twin_len hdn]
        refine x_isd (fun c => (c rfl).elim) (fun _ => ?_)
        walk_at "hs"
        rw [nats_length, twin_len hdn]
        refine x_isd (fun c => (c rfl).elim) (fun _ => ?_)
        walk_at "hs"
        refine x_eqTup hA hB ?_
        rw [decide_eq_false (twin_ne hdn)]
        walk_at "hs"
        refine ⟨t, t', .ref a, twin n d d, twin n d (d + 1), u, d, rfl, h2, h2', twin_tree hdn n2 (by omega), twin_tree hdn n2 (by omega), by rw [twin_len hdn, twin_len hdn], hv.same s1, fun R H2 s2 eR => ?_⟩
        have hR : SqT K H2 R (nats (unlikeN (twin n d d) (twin n d (d + 1)) u d)) := .of eR
        walk_at "hs"
        have n0 : (0 : Nat) ∉ unlikeN (twin n d d) (twin n d (d + 1)) u d := fun h => by
          have := (unlike_mem.mp h).2
          rw [twin_head hdn] at this
          cases this
        refine x_ninNT (k := 0) hR ?_
        rw [decide_eq_false n0]
        walk_at "hs"
        refine ⟨_, u, d, rfl, (hv.same s1).same s2, ?_⟩
        walk_at "hs"
        rw [nats_length, twin_unlike hdn]
        walk_at "hs"
        rw [decide_eq_true rfl]
        exact q _ (s1.trans s2)
end
set_option maxRecDepth 100000
set_option maxHeartbeats 8000000
open PySem PySem.Spec L2


section
variable {P : Program} {w : World} {K : PySem.W.Frag} {mg : Str → Option Value} {base : Heap} {Z : Ad}
/-- two trees of the same -/
def TrEq (Z : Ad) (a b : Addr) (H : Hp) : Prop := ∃ hs, TreeAt Z H a hs ∧ TreeAt Z H b hs
theorem monT : ∀ a b H H', Ext H H' → TrEq Z a b H → TrEq Z a b H' := fun a b H H' e h => by
  obtain ⟨hs, h1, h2⟩ := h
  exact ⟨hs, h1.same e, h2.same e⟩
theorem TwinsAt.eqv {H : Hp} {x y : V} {n d : Nat} (h1 : TwinsAt Z H x n d) (h2 : TwinsAt Z H y n d) : DTup K (DIns Z.a_Tree (TrEq Z)) x y H := by
  obtain ⟨D, a, b, rfl, eD, ha, hb⟩ := h1
  obtain ⟨D', a', b', rfl, eD', ha', hb'⟩ := h2
  have go : ∀ {x y : Addr} {hs : List Nat}, TreeAt Z H x hs → TreeAt Z H y hs → DIns Z.a_Tree (TrEq Z) (.ref x) (.ref y) H := fun {x y hs} k1 k2 => by
    obtain ⟨dx, t, e1, _⟩ := id k1
    obtain ⟨dy, u, e2, _⟩ := id k2
    exact ⟨x, y, dx, dy, _, _, rfl, rfl, e1, e2, hs, k1, k2⟩
  exact ⟨D, D', _, _, rfl, rfl, .of eD, .of eD', .cons (go ha ha') (.cons (go hb hb') .nil)⟩
theorem ok_treq {f : Addr} {fd : FuncData} {ps : List Str} (G : FnOk P w K mg base CX0 1 f fd ps (spEqT Z)) : FnOk P w K mg base CX0 1 f fd ps (spEq (TrEq Z)) := G.imp fun vs H Q E h => by
  obtain ⟨a, b, rfl, ⟨hs, h1, h2⟩, q⟩ := h
  refine ⟨a, b, hs, rfl, h1, .inl ⟨hs, h2, ?_⟩⟩
  rw [decide_eq_true (rfl : hs = hs)]
  exact q H Ext.rfl'
theorem ok_law {f : Addr} {fd : FuncData} (F : Fun K "law" "law" s_law f fd) (B : Bl Z mg) (T : Cls K Z.a_Tree) (N : NoAttr K Z.a_Tree "hung")
    {f__law_pool : Addr} {fd__law_pool : FuncData} (C__law_pool : Cal K mg "_law_pool" f__law_pool fd__law_pool ["_law_script"]) (G__law_pool : FnOk P w K mg base CX0 1 f__law_pool fd__law_pool ["_law_script"] (spPool K)) {f__law_draw : Addr} {fd__law_draw : FuncData} (C__law_draw : Cal K mg "_law_draw" f__law_draw fd__law_draw ["_law_pool_here", "_law_many"]) (G__law_draw : FnOk P w K mg base CX0 1 f__law_draw fd__law_draw ["_law_pool_here", "_law_many"] spDraw)
    {f__law_pick : Addr} {fd__law_pick : FuncData} (C__law_pick : Cal K mg "_law_pick" f__law_pick fd__law_pick ["_law_pool_here", "_law_things"]) (G__law_pick : FnOk P w K mg base CX0 2 f__law_pick fd__law_pick ["_law_pool_here", "_law_things"] (spPick K)) {f__law_hung : Addr} {fd__law_hung : FuncData} (C__law_hung : Cal K mg "_law_hung" f__law_hung fd__law_hung ["_law_pool_here", "_law_many"]) (G__law_hung : FnOk P w K mg base CX0 3 f__law_hung fd__law_hung ["_law_pool_here", "_law_many"] spHung)
    {f__law_is : Addr} {fd__law_is : FuncData} (C__law_is : Cal K mg "_law_is" f__law_is fd__law_is ["_law_told", "_law_due"]) (G__law_is : FnOk P w K mg base CX0 3 f__law_is fd__law_is ["_law_told", "_law_due"] (spIs K 1)) {f__law_view : Addr} {fd__law_view : FuncData} (C__law_view : Cal K mg "_law_view" f__law_view fd__law_view ["_law_pool_here"]) (G__law_view : FnOk P w K mg base CX0 2 f__law_view fd__law_view ["_law_pool_here"] spView2)
    {f__law_way : Addr} {fd__law_way : FuncData} (C__law_way : Cal K mg "_law_way" f__law_way fd__law_way ["_law_hung_here", "_law_place"]) (G__law_way : FnOk P w K mg base CX0 1 f__law_way fd__law_way ["_law_hung_here", "_law_place"] (spWay K)) {f__law_unlike : Addr} {fd__law_unlike : FuncData} (C__law_unlike : Cal K mg "_law_unlike" f__law_unlike fd__law_unlike ["_law_one", "_law_other", "_law_view_here"]) (G__law_unlike : FnOk P w K mg base CX0 3 f__law_unlike fd__law_unlike ["_law_one", "_law_other", "_law_view_here"] spUnl)
    {f__law_distance : Addr} {fd__law_distance : FuncData} (C__law_distance : Cal K mg "_law_distance" f__law_distance fd__law_distance ["_law_view_here"]) (G__law_distance : FnOk P w K mg base CX0 1 f__law_distance fd__law_distance ["_law_view_here"] spDist2) {f__law_are_twins : Addr} {fd__law_are_twins : FuncData} (C__law_are_twins : Cal K mg "_law_are_twins" f__law_are_twins fd__law_are_twins ["_law_told", "_law_view_here", "_law_many"]) (G__law_are_twins : FnOk P w K mg base CX0 4 f__law_are_twins fd__law_are_twins ["_law_told", "_law_view_here", "_law_many"] (spAre Z))
    {f_distance : Addr} {fd_distance : FuncData} (C_distance : Cal K mg "distance" f_distance fd_distance ["view"]) (G_distance : FnOk P w K mg base CX0 3 f_distance fd_distance ["view"] spDist) {f_twins : Addr} {fd_twins : FuncData} (C_twins : Cal K mg "twins" f_twins fd_twins ["view", "blocks"]) (G_twins : FnOk P w K mg base CX0 5 f_twins fd_twins ["view", "blocks"] (spTwins Z)) {f_unlike : Addr} {fd_unlike : FuncData} (C_unlike : Cal K mg "unlike" f_unlike fd_unlike ["tree", "other", "view"]) (G_unlike : FnOk P w K mg base CX0 7 f_unlike fd_unlike ["tree", "other", "view"] (spUnlike Z))
    {f_moved : Addr} {fd_moved : FuncData} (C_moved : Cal K mg "moved" f_moved fd_moved ["tree", "block", "place"]) (G_moved : FnOk P w K mg base (L2.CX P w) 6 f_moved fd_moved ["tree", "block", "place"] (spMoved Z)) {f_Tree___eq__ : Addr} {fd_Tree___eq__ : FuncData} (C_Tree___eq__ : CalM K f_Tree___eq__ fd_Tree___eq__ ["self", "other"]) (G_treq : FnOk P w K mg base CX0 1 f_Tree___eq__ fd_Tree___eq__ ["self", "other"] (spEq (TrEq Z))) (O_Tree : OwnQ K Z.a_Tree f_Tree___eq__)
    {f_Tree___init__ : Addr} {fd_Tree___init__ : FuncData} (C_Tree___init__ : CalM K f_Tree___init__ fd_Tree___init__ ["self", "hung"]) (G_Tree___init__ : FnOk P w K mg base (L2.CX P w) 3 f_Tree___init__ fd_Tree___init__ ["self", "hung"] (spTree Z)) (M_Tree : Mk K Z.a_Tree f_Tree___init__) : FnOk P w K mg base CX0 8 f fd ["_law_script"] (spLaw K) := by
  refine F.ok sc_law (fun vs H Q E h => ?_) (fun cdv A outer s H vs Q E hr h => ?_)
  · obtain ⟨a, ns, rfl, _⟩ := h
    rfl
  · obtain ⟨a, ns, rfl, hS, hl, q⟩ := h
    refine ⟨_, (pss_cons (ps_set (i := 1) sc_law.nd rfl (Or.inl rfl) (pe_call G__law_pool (hr.mono (by first | decide | omega)) (by rfl) C__law_pool.g C__law_pool.k C__law_pool.b .nil pass0 (pa_cons (pv 0) pa_nil)))
 (pss_cons (ps_for PassesOwn.never rfl (pi_range1 rfl B.b_range (pa_cons pe_int pa_nil)) (pg_name (i := 2) sc_law.nd rfl (Or.inl rfl)) (pss_cons (ps_set (i := 3) sc_law.nd rfl (Or.inl rfl) (pe_call G__law_view (hr.mono (by first | decide | omega)) (by rfl) C__law_view.g C__law_view.k C__law_view.b .nil pass0 (pa_cons (pv 1) pa_nil)))
 (pss_cons (ps_set (i := 4) sc_law.nd rfl (Or.inl rfl) (pe_call G__law_pick (hr.mono (by first | decide | omega)) (by rfl) C__law_pick.g C__law_pick.k C__law_pick.b .nil pass0 (pa_cons (pv 1) (pa_cons (pe_lst (pa_cons (pe_op op_add (pe_ix (ix_tupK (K := K) rfl) (pv 3) pe_int (fun _ _ => rfl)) pe_int) (pa_cons (pe_op op_add (pe_ix (ix_tupK (K := K) rfl) (pv 3) pe_int (fun _ _ => rfl)) pe_int) (pa_cons (pe_op op_add (pe_ix (ix_tupK (K := K) rfl) (pv 3) pe_int (fun _ _ => rfl)) pe_int) (pa_cons (pe_op op_add pe_int (pe_call G__law_draw (hr.mono (by first | decide | omega)) (by rfl) C__law_draw.g C__law_draw.k C__law_draw.b .nil pass0 (pa_cons (pv 1) (pa_cons pe_int pa_nil)))) (pa_cons (pe_op op_add pe_int (pe_call G__law_draw (hr.mono (by first | decide | omega)) (by rfl) C__law_draw.g C__law_draw.k C__law_draw.b .nil pass0 (pa_cons (pv 1) (pa_cons pe_int pa_nil)))) pa_nil)))))) pa_nil))))
 (pss_cons (ps_set (i := 5) sc_law.nd rfl (Or.inl rfl) (pe_call G_twins (hr.mono (by first | decide | omega)) (by rfl) C_twins.g C_twins.k C_twins.b .nil pass0 (pa_cons (pv 3) (pa_cons (pv 4) pa_nil))))
 (pss_cons (ps_if (PW.pt (pw_or (pt_not (pt_val (pe_call G__law_are_twins (hr.mono (by first | decide | omega)) (by rfl) C__law_are_twins.g C__law_are_twins.k C__law_are_twins.b .nil pass0 (pa_cons (pv 5) (pa_cons (pv 3) (pa_cons (pv 4) pa_nil)))))) (pw_or (pt_cmpR (op_neGK (K := K) rfl (mon_ins monT) (eqG_ins (E := fun _ _ _ => False) G_treq O_Tree.s O_Tree.fn C_Tree___eq__.b pass0) (hr.mono (by first | decide | omega))) (pe_call G_twins (hr.mono (by first | decide | omega)) (by rfl) C_twins.g C_twins.k C_twins.b .nil pass0 (pa_cons (pv 3) (pa_cons (pv 4) pa_nil))) (pv 5) (nomark _)) (pw_or1 (pt_cmpR op_ne (pe_call G_distance (hr.mono (by first | decide | omega)) (by rfl) C_distance.g C_distance.k C_distance.b .nil pass0 (pa_cons (pv 3) pa_nil)) (pe_call G__law_distance (hr.mono (by first | decide | omega)) (by rfl) C__law_distance.g C__law_distance.k C__law_distance.b .nil pass0 (pa_cons (pv 3) pa_nil)) (nomark _)))))) (pss_one (ps_ret pe_bl)) pss_nil)
 (pss_cons (ps_set (i := 6) sc_law.nd rfl (Or.inl rfl) (pe_call G__law_hung (hr.mono (by first | decide | omega)) (by rfl) C__law_hung.g C__law_hung.k C__law_hung.b .nil pass0 (pa_cons (pv 1) (pa_cons (pv 4) pa_nil))))
 (pss_cons (ps_set (i := 7) sc_law.nd rfl (Or.inl rfl) (pe_make M_Tree G_Tree___init__ (hr.mono (by first | decide | omega)) (by rfl) B.k_Tree C_Tree___init__.b .nil passE (pa_cons (pv 6) pa_nil)))
 (pss_cons (ps_for PassesOwn.never rfl (pi_range1 rfl B.b_range (pa_cons (pe_op op_add pe_int (pe_call G__law_draw (hr.mono (by first | decide | omega)) (by rfl) C__law_draw.g C__law_draw.k C__law_draw.b .nil pass0 (pa_cons (pv 1) (pa_cons pe_int pa_nil)))) pa_nil)) (pg_name (i := 8) sc_law.nd rfl (Or.inl rfl)) (pss_cons (ps_par (i := 9) (j := 10) (by rfl) sc_law.nd rfl rfl (by decide) rfl rfl (pa_cons (pe_op op_add pe_int (pe_call G__law_draw (hr.mono (by first | decide | omega)) (by rfl) C__law_draw.g C__law_draw.k C__law_draw.b .nil pass0 (pa_cons (pv 1) (pa_cons (pv 4) pa_nil)))) (pa_cons (pe_call G__law_draw (hr.mono (by first | decide | omega)) (by rfl) C__law_draw.g C__law_draw.k C__law_draw.b .nil pass0 (pa_cons (pv 1) (pa_cons (pe_op op_add (pv 4) pe_int) pa_nil))) pa_nil)) (by rfl))
 (pss_one (ps_if (PW.pt (pw_and (pt_cmpR op_ne (pv 10) (pv 9) (nomark _)) (pw_and1 (pt_cmpR (op_notInK (K := K) rfl) (pv 9) (pe_call G__law_way (hr.mono (by first | decide | omega)) (by rfl) C__law_way.g C__law_way.k C__law_way.b .nil pass0 (pa_cons (pe_fldK (K := K) rfl (pv 7) rfl) (pa_cons (pv 10) pa_nil))) (by rfl))))) (pss_one (ps_set (i := 7) sc_law.nd rfl (Or.inl rfl) (pe_call G_moved (hr.mono (by first | decide | omega)) (by rfl) C_moved.g C_moved.k C_moved.b .nil passE (pa_cons (pv 7) (pa_cons (pv 9) (pa_cons (pv 10) pa_nil)))))) pss_nil))))
 (pss_cons (ps_set (i := 11) sc_law.nd rfl (Or.inl rfl) (pe_call G_unlike (hr.mono (by first | decide | omega)) (by rfl) C_unlike.g C_unlike.k C_unlike.b .nil pass0 (pa_cons (pe_make M_Tree G_Tree___init__ (hr.mono (by first | decide | omega)) (by rfl) B.k_Tree C_Tree___init__.b .nil passE (pa_cons (pv 6) pa_nil)) (pa_cons (pv 7) (pa_cons (pv 3) pa_nil)))))
 (pss_cons (ps_if (pt_not (pt_val (pe_call G__law_is (hr.mono (by first | decide | omega)) (by rfl) C__law_is.g C__law_is.k C__law_is.b .nil pass0 (pa_cons (pv 11) (pa_cons (pe_call G__law_unlike (hr.mono (by first | decide | omega)) (by rfl) C__law_unlike.g C__law_unlike.k C__law_unlike.b .nil pass0 (pa_cons (pv 6) (pa_cons (pe_fldK (K := K) rfl (pv 7) rfl) (pa_cons (pv 3) pa_nil)))) pa_nil))))) (pss_one (ps_ret pe_bl)) pss_nil)
 (pss_one (ps_if (PW.pt (pw_and (pt_cmpR (op_neDK (K := K) rfl hr.units) (pe_fldK (K := K) rfl (pv 7) rfl) (pv 6) (nomark _)) (pw_and (pt_cmpR (op_notInK (K := K) rfl) pe_int (pv 11) (by rfl)) (pw_and1 (pt_cmpR op_lt (pe_callB (call_lenK (K := K) rfl) (by rfl) B.b_len PySem.boot_len (pa_cons (pv 11) pa_nil)) (pe_call G__law_distance (hr.mono (by first | decide | omega)) (by rfl) C__law_distance.g C__law_distance.k C__law_distance.b .nil pass0 (pa_cons (pv 3) pa_nil)) (nomark _)))))) (pss_one (ps_ret pe_bl)) pss_nil))))))))))))
 (pss_one (ps_ret pe_bl)))), ?_⟩
    walk_at "h0"
    refine ⟨a, ns, rfl, hS, hl, fun p H1 _ _ hp1 => ?_⟩
    walk_at "hs"
    refine ⟨3, rfl, by decide, by decide, ?_⟩
    refine lp_range (lo := 0) (n := Int.toNat 3) (fun i σ' H' => (∃ x2 x3 x4 x5 x6 x7 x8 x9 x10 x11, σ' = [some (.ref a), some (.ref p), x2, x3, x4, x5, x6, x7, x8, x9, x10, x11]) ∧ PoolAt H' p (fun _ => False)) ⟨⟨_, _, _, _, _, _, _, _, _, _, rfl⟩, hp1⟩ ?_ ?_
    · rintro i σ' H2 hi ⟨⟨x2, x3, x4, x5, x6, x7, x8, x9, x10, x11, rfl⟩, hp2⟩
      walk_at "hs"
      refine ⟨p, _, rfl, hp2, fun v u d H3 b3 hp3 hv3 => ?_⟩
      obtain ⟨av, rfl, ea, hu4, hd4⟩ := id hv3
      have hA3 : SqT K H3 av [.int (u : Nat), .int (d : Nat)] := .of ea
      walk_at "hs"
      refine ⟨p, _, _, rfl, hp3, by decide, by decide, fun e H4 e0 e1 b4 hp4 => ?_⟩
      obtain ⟨k1, rfl⟩ := Int.eq_ofNat_of_zero_le e0
      walk_at "hs"
      refine ⟨p, _, _, rfl, hp4, by decide, by decide, fun e H5 e0 e1' b5 hp5 => ?_⟩
      obtain ⟨k2, rfl⟩ := Int.eq_ofNat_of_zero_le e0
      walk_at "hs"
      intro L nL
      have b35 := b4.trans b5
      have hv5 := hv3.pool hp3 b35
      have s6 : Same H5 (upd H5 L (.lst [.int ((d : Nat) + 1 : Int), .int ((d : Nat) + 2 : Int), .int ((d : Nat) + 3 : Int), .int (1 + (k1 : Int)), .int (1 + (k2 : Int))])) := same_new (Same.refl _) nL
      walk_at "hs"
      refine ⟨p, L, _, _, rfl, hp5.same s6, SqL.of upd_same, hp5.ne nL, by show 0 < 5; decide, by show 5 ≤ 1000; decide, fun z H7 hm b7 hp7 => ?_⟩
      obtain ⟨n, rfl, n1, n40⟩ : ∃ n : Nat, z = .int n ∧ 1 ≤ n ∧ n ≤ 40 := by
        simp only [List.mem_cons, List.not_mem_nil, or_false] at hm
        rcases hm with rfl | rfl | rfl | rfl | rfl
        · exact ⟨d + 1, rfl, by omega, by omega⟩
        · exact ⟨d + 2, rfl, by omega, by omega⟩
        · exact ⟨d + 3, rfl, by omega, by omega⟩
        · exact ⟨k1 + 1, by rw [show (1 : Int) + (k1 : Int) = ((k1 + 1 : Nat) : Int) by omega], by omega, by omega⟩
        · exact ⟨k2 + 1, by rw [show (1 : Int) + (k2 : Int) = ((k2 + 1 : Nat) : Int) by omega], by omega, by omega⟩
      have hv7 := (hv5.same s6).pool (hp5.same s6) b7
      walk_at "hs"
      refine ⟨.ref av, u, d, n, rfl, hv7, n1, n40, fun r H8 s8 c1 c2 => ?_⟩
      have hp8 := hp7.same s8
      have hv8 := hv7.same s8
      walk_at "hs"
      refine ⟨r, .ref av, u, d, n, rfl, hv8, n1, n40, c1, c2, fun H9 s9 => ?_⟩
      walk_at "hs"
      refine ⟨.ref av, u, d, n, rfl, hv8.same s9, n1, n40, fun r2 H10 s10 c3 c4 => ?_⟩
      walk_at "hs"
      have tw : rNeG K (DIns Z.a_Tree (TrEq Z)) r2 r H10 = rNeG K (DIns Z.a_Tree (TrEq Z)) r2 r H10 := rfl
      have s810 := s9.trans s10
      have ne : ∀ {Q' : VK}, (∀ H', Same H10 H' → Q' (.bl false) H') → rNeG K (DIns Z.a_Tree (TrEq Z)) r2 r H10 Q' := fun {Q'} h => by
        by_cases hdn : n < d + 2
        · rw [c1 hdn, c3 hdn]
          exact .inl ⟨rfl, rfl, h _ (Same.refl _)⟩
        · have t1 := c2 (by omega)
          have t2 := c4 (by omega)
          obtain ⟨D, a1, a2, er, eD, g1, g2⟩ := t1
          exact .inr ⟨TwinsAt.eqv t2 ⟨D, a1, a2, er, s810 _ _ eD, g1.same s810, g2.same s810⟩, fun H' e => h H' e⟩
      refine ne fun H11 s11 => ?_
      have s811 := s810.trans s11
      walk_at "hs"
      refine ⟨.ref av, u, d, rfl, hv8.same s811, fun H12 s12 => ?_⟩
      have s812 := s811.trans s12
      have hv12 := hv8.same s812
      have hp12 := hp8.same s812
      walk_at "hs"
      refine ⟨.ref av, u, d, rfl, hv12, ?_⟩
      walk_at "hs"
      refine x_isd (fun c => (c rfl).elim) (fun _ => ?_)
      walk_at "hs"
      refine ⟨p, n, _, rfl, hp12, n1, n40, fun h hs H13 ht hlen b13 hp13 nh eh => ?_⟩
      have hv13 := hv12.pool hp12 b13
      walk_at "hs"
      refine x_tree rfl ht eh fun x H14 nx s14 tr14 => ?_
      have hp14 := hp13.same s14
      have eh14 := s14 _ _ eh
      have hv14 := hv13.same s14
      walk_at "hs"
      refine ⟨p, _, _, rfl, hp14, by decide, by decide, fun c H15 e0 e1'' b15 hp15 => ?_⟩
      have tr15 := tr14.pool hp14 b15
      have eh15 := tup_pool hp14 b15 eh14
      have hv15 := hv14.pool hp14 b15
      walk_at "hs"
      refine ⟨_, rfl, by omega, by omega, ?_⟩
      refine lp_range (lo := 0) (n := Int.toNat (1 + c)) (fun j σ' H' => ∃ (y : Addr) (gs : List Nat), (∃ x8 x9 x10, σ' = [some (.ref a), some (.ref p), some (.int (0 + (i : Int))), some (.ref av), some (.int n), some r, some (.ref h), some (.ref y), x8, x9, x10, x11]) ∧ But p H15 H' ∧ PoolAt H' p (fun _ => False) ∧ TreeAt Z H' y gs ∧ IsTree gs ∧ gs.length = n)
        ⟨x, hs, ⟨_, _, _, rfl⟩, But.refl _ _, hp15, tr15, ht, hlen⟩ ?_ ?_
      · rintro j σ' H16 hj ⟨y, gs, ⟨x8, x9, x10, rfl⟩, b16, hp16, ty, gt, glen⟩
        walk_at "hs"
        refine ⟨p, n, _, rfl, hp16, by omega, by omega, fun e H17 e0 e1 b17 hp17 => ?_⟩
        obtain ⟨k, rfl⟩ := Int.eq_ofNat_of_zero_le e0
        walk_at "hs"
        refine ⟨p, _, _, rfl, hp17, by omega, by omega, fun e H18 e0 e1 b18 hp18 => ?_⟩
        obtain ⟨l, rfl⟩ := Int.eq_ofNat_of_zero_le e0
        have ty18 := (ty.pool hp16 b17).pool hp17 b18
        have b1518 := b16.trans (b17.trans b18)
        have kl : k + 1 ≤ gs.length := by omega
        have ll : l ≤ gs.length := by omega
        have m40' := gt.most
        rw [show (1 : Int) + (k : Int) = ((k + 1 : Nat) : Int) by omega]
        walk_at "hs"
        refine x_isd (fun c1 => ?_) (fun c1 => ?_)
        · walk_at "hs"
          obtain ⟨dy, t', g1, g2⟩ := id ty18
          refine ⟨y, _, dy, _, _, rfl, g1, T, N, rfl, ?_⟩
          walk_at "hs"
          refine ⟨t', gs, l, rfl, .of g2, gt.le, gt.most, ll, fun D2 H19 s19 _ e19 => ?_⟩
          refine x_ninNL (.of e19) ?_
          walk_at "hs"
          refine x_isnd (fun c2 => ?_) (fun c2 => ?_)
          · have ty19 := ty18.same s19
            have hp19 := hp18.same s19
            have d1 : l ≠ k + 1 := by omega
            walk_at "hs"
            refine ⟨y, gs, k + 1, l, rfl, ty19, gt, by omega, kl, ll, fun _ _ m H20 s20 nm tm => ?_, fun h => (h.elim d1 c2).elim⟩
            walk_at "hs"
            exact ⟨m, put gs (k + 1) l, ⟨_, _, _, rfl⟩, b1518.trans (.of (s19.trans s20)), hp19.same s20, tm, put_tree gt (by omega) kl ll d1 c2, by rw [put_len]; exact glen⟩
          · walk_at "hs"
            exact ⟨y, gs, ⟨_, _, _, rfl⟩, b1518.trans (.of s19), hp18.same s19, ty18.same s19, gt, glen⟩
        · walk_at "hs"
          exact ⟨y, gs, ⟨_, _, _, rfl⟩, b1518, hp18, ty18, gt, glen⟩
      · rintro σ' H16 ⟨y, gs, ⟨x8, x9, x10, rfl⟩, b16, hp16, ty, gt, glen⟩
        have eh16 := tup_pool hp15 b16 eh15
        have hv16 := hv15.pool hp15 b16
        have hl2 : hs.length = gs.length := by omega
        have m40 := ht.most
        walk_at "hs"
        refine x_tree rfl ht eh16 fun x2 H17 nx2 s17 tr17 => ?_
        walk_at "hs"
        refine ⟨x2, y, .ref av, hs, gs, u, d, rfl, tr17, ht, ty.same s17, gt, hl2, hv16.same s17, fun R1 H18 s18 e18 => ?_⟩
        have s1618 := s17.trans s18
        walk_at "hs"
        obtain ⟨dy, t', g1, g2⟩ := ty.same s1618
        refine ⟨y, _, dy, _, _, rfl, g1, T, N, rfl, ?_⟩
        walk_at "hs"
        refine ⟨h, t', .ref av, hs, gs, u, d, rfl, s1618 _ _ eh16, g2, ht, gt, hl2, hv16.same s1618, fun R2 H19 s19 e19 => ?_⟩
        have lu := unlike_len hs gs u d
        refine ⟨_, _, rfl, (Al.tups (s19 _ _ e18) e19 (by rw [nats_length]; omega) nats_sca), fun H20 s20 => ?_⟩
        have s1620 := s1618.trans (s19.trans s20)
        have hp20 := hp16.same s1620
        have hv20 := hv16.same s1620
        have hR20 : SqT K H20 R1 (nats (unlikeN hs gs u d)) := .of (s20 _ _ (s19 _ _ e18))
        have hh20 : SqT K H20 h (nats hs) := .of (s1620 _ _ eh16)
        obtain ⟨dy, t', g1, g2⟩ := ty.same s1620
        walk_at "hs"
        refine ⟨y, _, dy, _, _, rfl, g1, T, N, rfl, ?_⟩
        walk_at "hs"
        refine x_neTup (.of g2) hh20 ?_
        walk_at "hs"
        refine x_isnd (fun c1 => ?_) (fun c1 => ?_)
        · walk_at "hs"
          refine x_ninNT (k := 0) hR20 ?_
          walk_at "hs"
          refine x_isnd (fun c2 => ?_) (fun c2 => ?_)
          · have h0 : telD hs gs u d 0 = true := by
              cases e : telD hs gs u d 0 with
              | true => rfl
              | false => exact (c2 (unlike_mem.mpr ⟨Nat.zero_le _, e⟩)).elim
            have ff := first_fact ht gt hl2 (fun e => c1 e.symm) h0
            walk_at "hs"
            refine ⟨.ref av, u, d, rfl, hv20, ?_⟩
            walk_at "hs"
            rw [nats_length]
            refine x_isd (fun c3 => absurd c3 (by omega)) (fun c3 => ?_)
            walk_at "hs"
            exact ⟨⟨_, _, _, _, _, _, _, _, _, _, rfl⟩, hp20⟩
          · walk_at "hs"
            exact ⟨⟨_, _, _, _, _, _, _, _, _, _, rfl⟩, hp20⟩
        · walk_at "hs"
          exact ⟨⟨_, _, _, _, _, _, _, _, _, _, rfl⟩, hp20⟩
    · rintro σ' H2 ⟨⟨x2, x3, x4, x5, x6, x7, x8, x9, x10, x11, rfl⟩, _⟩
      walk_at "hs"
      exact q _
end
set_option maxRecDepth 100000
set_option maxHeartbeats 2000000
open PySem PySem.Spec L2 PyProof.Rows
theorem kit_ref {K : PySem.W.Frag} {t : Value} {C : Addr} {b : Bool} (hn : (t == Value.ref C) = false) (h : PySem.W.isClsIn K C = true) (ht : PySem.W.typeIn K (.ref C) = some (.type "type")) (hs : PySem.W.subIn K t (.ref C) = some b) : PySem.W.kitOne K t (.ref C) = some b := by
  have e2 : ((PySem.W.clsIn K C).isSome && PySem.W.typeIn K (.ref C) == some (.type "type")) = true := by
    have h2' : (PySem.W.clsIn K C).isSome = true := h
    rw [h2', ht] <;> rfl
  unfold PySem.W.kitOne
  rw [hn, if_neg Bool.false_ne_true]
  show (if ((PySem.W.clsIn K C).isSome && PySem.W.typeIn K (.ref C) == some (.type "type")) = true then PySem.W.subIn K t (.ref C) else none) = some b
  rw [if_pos e2]
  exact hs
theorem sub_tuple (K : PySem.W.Frag) (C : Addr) : PySem.W.subIn K (.type "tuple") (.ref C) = some false := by
  have e2 : PySem.fastBuiltinMro "tuple" = some [.type "tuple", .type "object"] := by decide +kernel
  show (PySem.fastBuiltinMro "tuple").map (·.contains (Value.ref C)) = some false
  rw [e2]
  rfl
theorem all_mk {P : Program} {w : World} {K : PySem.W.Frag} {h : Heap} {mg : Str → Option Value} {fa : Addr} (X : K.In h) (G : h.Ns mainGlobals mg) (hfa : mg "law" = some (.ref fa))
    {c_VoteError : Addr}
    {c_BadTree : Addr}
    {c_NoBlock : Addr}
    {c_NoPlace : Addr}
    {c_Beneath : Addr}
    {c_NoView : Addr}
    {c_OtherBlocks : Addr}
    {c_NoNumber : Addr}
    {c_Tree : Addr}
    {t_MOST_BLOCKS : PySem.Tok}
    {t_MOST_STEPS : PySem.Tok}
    {f_is_within : Addr} {od_is_within an_is_within : Option Addr} {sl_is_within : Array (Option Value)} {oc_is_within kV_is_within dc_is_within pm_is_within cd_is_within ct_is_within : Value}
    {f__comes_to_head : Addr} {od__comes_to_head an__comes_to_head : Option Addr} {sl__comes_to_head : Array (Option Value)} {oc__comes_to_head kV__comes_to_head dc__comes_to_head pm__comes_to_head cd__comes_to_head ct__comes_to_head : Value}
    {f_BadTree___init__ : Addr} {od_BadTree___init__ an_BadTree___init__ : Option Addr} {sl_BadTree___init__ : Array (Option Value)} {oc_BadTree___init__ kV_BadTree___init__ dc_BadTree___init__ pm_BadTree___init__ cd_BadTree___init__ ct_BadTree___init__ : Value}
    {f_Tree___init__ : Addr} {od_Tree___init__ an_Tree___init__ : Option Addr} {sl_Tree___init__ : Array (Option Value)} {oc_Tree___init__ kV_Tree___init__ dc_Tree___init__ pm_Tree___init__ cd_Tree___init__ ct_Tree___init__ : Value}
    {f_Tree___eq__ : Addr} {od_Tree___eq__ an_Tree___eq__ : Option Addr} {sl_Tree___eq__ : Array (Option Value)} {oc_Tree___eq__ kV_Tree___eq__ dc_Tree___eq__ pm_Tree___eq__ cd_Tree___eq__ ct_Tree___eq__ : Value}
    {f_is_block : Addr} {od_is_block an_is_block : Option Addr} {sl_is_block : Array (Option Value)} {oc_is_block kV_is_block dc_is_block pm_is_block cd_is_block ct_is_block : Value}
    {f_is_place : Addr} {od_is_place an_is_place : Option Addr} {sl_is_place : Array (Option Value)} {oc_is_place kV_is_place dc_is_place pm_is_place cd_is_place ct_is_place : Value}
    {f_place_of : Addr} {od_place_of an_place_of : Option Addr} {sl_place_of : Array (Option Value)} {oc_place_of kV_place_of dc_place_of pm_place_of cd_place_of ct_place_of : Value}
    {f_parents : Addr} {od_parents an_parents : Option Addr} {sl_parents : Array (Option Value)} {oc_parents kV_parents dc_parents pm_parents cd_parents ct_parents : Value}
    {f_under : Addr} {od_under an_under : Option Addr} {sl_under : Array (Option Value)} {oc_under kV_under dc_under pm_under cd_under ct_under : Value}
    {f_beneath : Addr} {od_beneath an_beneath : Option Addr} {sl_beneath : Array (Option Value)} {oc_beneath kV_beneath dc_beneath pm_beneath cd_beneath ct_beneath : Value}
    {f_moved : Addr} {od_moved an_moved : Option Addr} {sl_moved : Array (Option Value)} {oc_moved kV_moved dc_moved pm_moved cd_moved ct_moved : Value}
    {f_is_view : Addr} {od_is_view an_is_view : Option Addr} {sl_is_view : Array (Option Value)} {oc_is_view kV_is_view dc_is_view pm_is_view cd_is_view ct_is_view : Value}
    {f_telling : Addr} {od_telling an_telling : Option Addr} {sl_telling : Array (Option Value)} {oc_telling kV_telling dc_telling pm_telling cd_telling ct_telling : Value}
    {f__row_told : Addr} {od__row_told an__row_told : Option Addr} {sl__row_told : Array (Option Value)} {oc__row_told kV__row_told dc__row_told pm__row_told cd__row_told ct__row_told : Value}
    {f__ties_told : Addr} {od__ties_told an__ties_told : Option Addr} {sl__ties_told : Array (Option Value)} {oc__ties_told kV__ties_told dc__ties_told pm__ties_told cd__ties_told ct__ties_told : Value}
    {f_unlike : Addr} {od_unlike an_unlike : Option Addr} {sl_unlike : Array (Option Value)} {oc_unlike kV_unlike dc_unlike pm_unlike cd_unlike ct_unlike : Value}
    {f_distance : Addr} {od_distance an_distance : Option Addr} {sl_distance : Array (Option Value)} {oc_distance kV_distance dc_distance pm_distance cd_distance ct_distance : Value}
    {f_twins : Addr} {od_twins an_twins : Option Addr} {sl_twins : Array (Option Value)} {oc_twins kV_twins dc_twins pm_twins cd_twins ct_twins : Value}
    {f__law_pool : Addr} {od__law_pool an__law_pool : Option Addr} {sl__law_pool : Array (Option Value)} {oc__law_pool kV__law_pool dc__law_pool pm__law_pool cd__law_pool ct__law_pool : Value}
    {f__law_draw : Addr} {od__law_draw an__law_draw : Option Addr} {sl__law_draw : Array (Option Value)} {oc__law_draw kV__law_draw dc__law_draw pm__law_draw cd__law_draw ct__law_draw : Value}
    {f__law_pick : Addr} {od__law_pick an__law_pick : Option Addr} {sl__law_pick : Array (Option Value)} {oc__law_pick kV__law_pick dc__law_pick pm__law_pick cd__law_pick ct__law_pick : Value}
    {f__law_is : Addr} {od__law_is an__law_is : Option Addr} {sl__law_is : Array (Option Value)} {oc__law_is kV__law_is dc__law_is pm__law_is cd__law_is ct__law_is : Value}
    {f__law_mixed : Addr} {od__law_mixed an__law_mixed : Option Addr} {sl__law_mixed : Array (Option Value)} {oc__law_mixed kV__law_mixed dc__law_mixed pm__law_mixed cd__law_mixed ct__law_mixed : Value}
    {f__law_hung : Addr} {od__law_hung an__law_hung : Option Addr} {sl__law_hung : Array (Option Value)} {oc__law_hung kV__law_hung dc__law_hung pm__law_hung cd__law_hung ct__law_hung : Value}
    {f__law_way : Addr} {od__law_way an__law_way : Option Addr} {sl__law_way : Array (Option Value)} {oc__law_way kV__law_way dc__law_way pm__law_way cd__law_way ct__law_way : Value}
    {f__law_tellings : Addr} {od__law_tellings an__law_tellings : Option Addr} {sl__law_tellings : Array (Option Value)} {oc__law_tellings kV__law_tellings dc__law_tellings pm__law_tellings cd__law_tellings ct__law_tellings : Value}
    {f__law_view : Addr} {od__law_view an__law_view : Option Addr} {sl__law_view : Array (Option Value)} {oc__law_view kV__law_view dc__law_view pm__law_view cd__law_view ct__law_view : Value}
    {f__law_unlike : Addr} {od__law_unlike an__law_unlike : Option Addr} {sl__law_unlike : Array (Option Value)} {oc__law_unlike kV__law_unlike dc__law_unlike pm__law_unlike cd__law_unlike ct__law_unlike : Value}
    {f__law_distance : Addr} {od__law_distance an__law_distance : Option Addr} {sl__law_distance : Array (Option Value)} {oc__law_distance kV__law_distance dc__law_distance pm__law_distance cd__law_distance ct__law_distance : Value}
    {f__law_are_twins : Addr} {od__law_are_twins an__law_are_twins : Option Addr} {sl__law_are_twins : Array (Option Value)} {oc__law_are_twins kV__law_are_twins dc__law_are_twins pm__law_are_twins cd__law_are_twins ct__law_are_twins : Value}
    {f_law : Addr} {od_law an_law : Option Addr} {sl_law : Array (Option Value)} {oc_law kV_law dc_law pm_law cd_law ct_law : Value}
    {nm q : Str} {N : Addr} {bs bm : List Value} {sn : List Str} {sub : List Value} {ab : Bool} {col : Option Bool} {dd : Option Addr} {m0 m1 m2 m3 m5 : Option Value}
    {nmU qU : Str} {NU : Addr} {bsU bmU : List Value} {snU : List Str} {subU : List Value} {abU : Bool} {colU : Option Bool} {ddU : Option Addr} {u0 u1 u2 u3 u5 : Option Value} {f_U : Addr} {ocU : Value} {odU anU : Option Addr} {kVU docU pmU ctU : Value} {cdU ccU : Addr} {slU : Array (Option Value)} {qqU : Str} {e p0 p1 p2 p3 p4 : Pos} {clU : Value} {cldU : Option Addr} {cslU : Array (Option Value)} {cclU : Value} {cddU : Option Addr} {vsU : Array Value} {ccsU : Array (Option Value)} {fileU : Str} {tfU : Tok}
    {nmT qT : Str} {NT : Addr} {bsT : List Value} {hdTT : Bool} {snT : List Str} {subT : List Value} {abT : Bool} {colT : Option Bool} {ddT : Option Addr} {w0 w1 w2 w3 w5 : Option Value} {newT : String}
    (n_VoteError : PySem.W.nsIn K mainGlobals "VoteError" = some (some (.ref c_VoteError)))
    (n_BadTree : PySem.W.nsIn K mainGlobals "BadTree" = some (some (.ref c_BadTree)))
    (n_NoBlock : PySem.W.nsIn K mainGlobals "NoBlock" = some (some (.ref c_NoBlock)))
    (n_NoPlace : PySem.W.nsIn K mainGlobals "NoPlace" = some (some (.ref c_NoPlace)))
    (n_Beneath : PySem.W.nsIn K mainGlobals "Beneath" = some (some (.ref c_Beneath)))
    (n_NoView : PySem.W.nsIn K mainGlobals "NoView" = some (some (.ref c_NoView)))
    (n_OtherBlocks : PySem.W.nsIn K mainGlobals "OtherBlocks" = some (some (.ref c_OtherBlocks)))
    (n_NoNumber : PySem.W.nsIn K mainGlobals "NoNumber" = some (some (.ref c_NoNumber)))
    (n_Tree : PySem.W.nsIn K mainGlobals "Tree" = some (some (.ref c_Tree)))
    (n_MOST_BLOCKS : PySem.W.nsIn K mainGlobals "MOST_BLOCKS" = some (some (.int 40 t_MOST_BLOCKS)))
    (n_MOST_STEPS : PySem.W.nsIn K mainGlobals "MOST_STEPS" = some (some (.int 4 t_MOST_STEPS)))
    (z_abs : PySem.W.nsIn K mainGlobals "abs" = some none)
    (z_all : PySem.W.nsIn K mainGlobals "all" = some none)
    (z_bool : PySem.W.nsIn K mainGlobals "bool" = some none)
    (z_dict : PySem.W.nsIn K mainGlobals "dict" = some none)
    (z_enumerate : PySem.W.nsIn K mainGlobals "enumerate" = some none)
    (z_int : PySem.W.nsIn K mainGlobals "int" = some none)
    (z_isinstance : PySem.W.nsIn K mainGlobals "isinstance" = some none)
    (z_len : PySem.W.nsIn K mainGlobals "len" = some none)
    (z_list : PySem.W.nsIn K mainGlobals "list" = some none)
    (z_range : PySem.W.nsIn K mainGlobals "range" = some none)
    (z_sorted : PySem.W.nsIn K mainGlobals "sorted" = some none)
    (z_super : PySem.W.nsIn K mainGlobals "super" = some none)
    (z_tuple : PySem.W.nsIn K mainGlobals "tuple" = some none)
    (a_is_within : PySem.W.nsIn K mainGlobals "is_within" = some (some (.ref f_is_within)))
    (l_is_within : K.lookup f_is_within = some ⟨oc_is_within, od_is_within, .func (PySem.W.fnOf "is_within" "is_within" (defArgs s_is_within) (defBody s_is_within) (defScope s_is_within) .none kV_is_within dc_is_within pm_is_within an_is_within cd_is_within ct_is_within), sl_is_within⟩)
    (c_is_within : PySem.W.codeIn K cd_is_within "is_within" = true)
    (k_is_within : PySem.W.keepIn K (.ref f_is_within) = true)
    (a__comes_to_head : PySem.W.nsIn K mainGlobals "_comes_to_head" = some (some (.ref f__comes_to_head)))
    (l__comes_to_head : K.lookup f__comes_to_head = some ⟨oc__comes_to_head, od__comes_to_head, .func (PySem.W.fnOf "_comes_to_head" "_comes_to_head" (defArgs s__comes_to_head) (defBody s__comes_to_head) (defScope s__comes_to_head) .none kV__comes_to_head dc__comes_to_head pm__comes_to_head an__comes_to_head cd__comes_to_head ct__comes_to_head), sl__comes_to_head⟩)
    (c__comes_to_head : PySem.W.codeIn K cd__comes_to_head "_comes_to_head" = true)
    (k__comes_to_head : PySem.W.keepIn K (.ref f__comes_to_head) = true)
    (a_BadTree___init__ : PySem.W.findIn K (.ref c_BadTree) "__init__" = some (some (.ref f_BadTree___init__)))
    (i_BadTree___init__ : PySem.W.isFn K (.ref f_BadTree___init__) = true)
    (l_BadTree___init__ : K.lookup f_BadTree___init__ = some ⟨oc_BadTree___init__, od_BadTree___init__, .func (PySem.W.fnOf "__init__" "BadTree.__init__" (defArgs s_BadTree___init__) (defBody s_BadTree___init__) (defScope s_BadTree___init__) .none kV_BadTree___init__ dc_BadTree___init__ pm_BadTree___init__ an_BadTree___init__ cd_BadTree___init__ ct_BadTree___init__), sl_BadTree___init__⟩)
    (c_BadTree___init__ : PySem.W.codeIn K cd_BadTree___init__ "BadTree.__init__" = true)
    (k_BadTree___init__ : PySem.W.keepIn K (.ref f_BadTree___init__) = true)
    (a_Tree___init__ : PySem.W.findIn K (.ref c_Tree) "__init__" = some (some (.ref f_Tree___init__)))
    (i_Tree___init__ : PySem.W.isFn K (.ref f_Tree___init__) = true)
    (l_Tree___init__ : K.lookup f_Tree___init__ = some ⟨oc_Tree___init__, od_Tree___init__, .func (PySem.W.fnOf "__init__" "Tree.__init__" (defArgs s_Tree___init__) (defBody s_Tree___init__) (defScope s_Tree___init__) .none kV_Tree___init__ dc_Tree___init__ pm_Tree___init__ an_Tree___init__ cd_Tree___init__ ct_Tree___init__), sl_Tree___init__⟩)
    (c_Tree___init__ : PySem.W.codeIn K cd_Tree___init__ "Tree.__init__" = true)
    (k_Tree___init__ : PySem.W.keepIn K (.ref f_Tree___init__) = true)
    (a_Tree___eq__ : PySem.W.findIn K (.ref c_Tree) "__eq__" = some (some (.ref f_Tree___eq__)))
    (i_Tree___eq__ : PySem.W.isFn K (.ref f_Tree___eq__) = true)
    (l_Tree___eq__ : K.lookup f_Tree___eq__ = some ⟨oc_Tree___eq__, od_Tree___eq__, .func (PySem.W.fnOf "__eq__" "Tree.__eq__" (defArgs s_Tree___eq__) (defBody s_Tree___eq__) (defScope s_Tree___eq__) .none kV_Tree___eq__ dc_Tree___eq__ pm_Tree___eq__ an_Tree___eq__ cd_Tree___eq__ ct_Tree___eq__), sl_Tree___eq__⟩)
    (c_Tree___eq__ : PySem.W.codeIn K cd_Tree___eq__ "Tree.__eq__" = true)
    (k_Tree___eq__ : PySem.W.keepIn K (.ref f_Tree___eq__) = true)
    (a_is_block : PySem.W.nsIn K mainGlobals "is_block" = some (some (.ref f_is_block)))
    (l_is_block : K.lookup f_is_block = some ⟨oc_is_block, od_is_block, .func (PySem.W.fnOf "is_block" "is_block" (defArgs s_is_block) (defBody s_is_block) (defScope s_is_block) .none kV_is_block dc_is_block pm_is_block an_is_block cd_is_block ct_is_block), sl_is_block⟩)
    (c_is_block : PySem.W.codeIn K cd_is_block "is_block" = true)
    (k_is_block : PySem.W.keepIn K (.ref f_is_block) = true)
    (a_is_place : PySem.W.nsIn K mainGlobals "is_place" = some (some (.ref f_is_place)))
    (l_is_place : K.lookup f_is_place = some ⟨oc_is_place, od_is_place, .func (PySem.W.fnOf "is_place" "is_place" (defArgs s_is_place) (defBody s_is_place) (defScope s_is_place) .none kV_is_place dc_is_place pm_is_place an_is_place cd_is_place ct_is_place), sl_is_place⟩)
    (c_is_place : PySem.W.codeIn K cd_is_place "is_place" = true)
    (k_is_place : PySem.W.keepIn K (.ref f_is_place) = true)
    (a_place_of : PySem.W.nsIn K mainGlobals "place_of" = some (some (.ref f_place_of)))
    (l_place_of : K.lookup f_place_of = some ⟨oc_place_of, od_place_of, .func (PySem.W.fnOf "place_of" "place_of" (defArgs s_place_of) (defBody s_place_of) (defScope s_place_of) .none kV_place_of dc_place_of pm_place_of an_place_of cd_place_of ct_place_of), sl_place_of⟩)
    (c_place_of : PySem.W.codeIn K cd_place_of "place_of" = true)
    (k_place_of : PySem.W.keepIn K (.ref f_place_of) = true)
    (a_parents : PySem.W.nsIn K mainGlobals "parents" = some (some (.ref f_parents)))
    (l_parents : K.lookup f_parents = some ⟨oc_parents, od_parents, .func (PySem.W.fnOf "parents" "parents" (defArgs s_parents) (defBody s_parents) (defScope s_parents) .none kV_parents dc_parents pm_parents an_parents cd_parents ct_parents), sl_parents⟩)
    (c_parents : PySem.W.codeIn K cd_parents "parents" = true)
    (k_parents : PySem.W.keepIn K (.ref f_parents) = true)
    (a_under : PySem.W.nsIn K mainGlobals "under" = some (some (.ref f_under)))
    (l_under : K.lookup f_under = some ⟨oc_under, od_under, .func (PySem.W.fnOf "under" "under" (defArgs s_under) (defBody s_under) (defScope s_under) .none kV_under dc_under pm_under an_under cd_under ct_under), sl_under⟩)
    (c_under : PySem.W.codeIn K cd_under "under" = true)
    (k_under : PySem.W.keepIn K (.ref f_under) = true)
    (a_beneath : PySem.W.nsIn K mainGlobals "beneath" = some (some (.ref f_beneath)))
    (l_beneath : K.lookup f_beneath = some ⟨oc_beneath, od_beneath, .func (PySem.W.fnOf "beneath" "beneath" (defArgs s_beneath) (defBody s_beneath) (defScope s_beneath) .none kV_beneath dc_beneath pm_beneath an_beneath cd_beneath ct_beneath), sl_beneath⟩)
    (c_beneath : PySem.W.codeIn K cd_beneath "beneath" = true)
    (k_beneath : PySem.W.keepIn K (.ref f_beneath) = true)
    (a_moved : PySem.W.nsIn K mainGlobals "moved" = some (some (.ref f_moved)))
    (l_moved : K.lookup f_moved = some ⟨oc_moved, od_moved, .func (PySem.W.fnOf "moved" "moved" (defArgs s_moved) (defBody s_moved) (defScope s_moved) .none kV_moved dc_moved pm_moved an_moved cd_moved ct_moved), sl_moved⟩)
    (c_moved : PySem.W.codeIn K cd_moved "moved" = true)
    (k_moved : PySem.W.keepIn K (.ref f_moved) = true)
    (a_is_view : PySem.W.nsIn K mainGlobals "is_view" = some (some (.ref f_is_view)))
    (l_is_view : K.lookup f_is_view = some ⟨oc_is_view, od_is_view, .func (PySem.W.fnOf "is_view" "is_view" (defArgs s_is_view) (defBody s_is_view) (defScope s_is_view) .none kV_is_view dc_is_view pm_is_view an_is_view cd_is_view ct_is_view), sl_is_view⟩)
    (c_is_view : PySem.W.codeIn K cd_is_view "is_view" = true)
    (k_is_view : PySem.W.keepIn K (.ref f_is_view) = true)
    (a_telling : PySem.W.nsIn K mainGlobals "telling" = some (some (.ref f_telling)))
    (l_telling : K.lookup f_telling = some ⟨oc_telling, od_telling, .func (PySem.W.fnOf "telling" "telling" (defArgs s_telling) (defBody s_telling) (defScope s_telling) .none kV_telling dc_telling pm_telling an_telling cd_telling ct_telling), sl_telling⟩)
    (c_telling : PySem.W.codeIn K cd_telling "telling" = true)
    (k_telling : PySem.W.keepIn K (.ref f_telling) = true)
    (a__row_told : PySem.W.nsIn K mainGlobals "_row_told" = some (some (.ref f__row_told)))
    (l__row_told : K.lookup f__row_told = some ⟨oc__row_told, od__row_told, .func (PySem.W.fnOf "_row_told" "_row_told" (defArgs s__row_told) (defBody s__row_told) (defScope s__row_told) .none kV__row_told dc__row_told pm__row_told an__row_told cd__row_told ct__row_told), sl__row_told⟩)
    (c__row_told : PySem.W.codeIn K cd__row_told "_row_told" = true)
    (k__row_told : PySem.W.keepIn K (.ref f__row_told) = true)
    (a__ties_told : PySem.W.nsIn K mainGlobals "_ties_told" = some (some (.ref f__ties_told)))
    (l__ties_told : K.lookup f__ties_told = some ⟨oc__ties_told, od__ties_told, .func (PySem.W.fnOf "_ties_told" "_ties_told" (defArgs s__ties_told) (defBody s__ties_told) (defScope s__ties_told) .none kV__ties_told dc__ties_told pm__ties_told an__ties_told cd__ties_told ct__ties_told), sl__ties_told⟩)
    (c__ties_told : PySem.W.codeIn K cd__ties_told "_ties_told" = true)
    (k__ties_told : PySem.W.keepIn K (.ref f__ties_told) = true)
    (a_unlike : PySem.W.nsIn K mainGlobals "unlike" = some (some (.ref f_unlike)))
    (l_unlike : K.lookup f_unlike = some ⟨oc_unlike, od_unlike, .func (PySem.W.fnOf "unlike" "unlike" (defArgs s_unlike) (defBody s_unlike) (defScope s_unlike) .none kV_unlike dc_unlike pm_unlike an_unlike cd_unlike ct_unlike), sl_unlike⟩)
    (c_unlike : PySem.W.codeIn K cd_unlike "unlike" = true)
    (k_unlike : PySem.W.keepIn K (.ref f_unlike) = true)
    (a_distance : PySem.W.nsIn K mainGlobals "distance" = some (some (.ref f_distance)))
    (l_distance : K.lookup f_distance = some ⟨oc_distance, od_distance, .func (PySem.W.fnOf "distance" "distance" (defArgs s_distance) (defBody s_distance) (defScope s_distance) .none kV_distance dc_distance pm_distance an_distance cd_distance ct_distance), sl_distance⟩)
    (c_distance : PySem.W.codeIn K cd_distance "distance" = true)
    (k_distance : PySem.W.keepIn K (.ref f_distance) = true)
    (a_twins : PySem.W.nsIn K mainGlobals "twins" = some (some (.ref f_twins)))
    (l_twins : K.lookup f_twins = some ⟨oc_twins, od_twins, .func (PySem.W.fnOf "twins" "twins" (defArgs s_twins) (defBody s_twins) (defScope s_twins) .none kV_twins dc_twins pm_twins an_twins cd_twins ct_twins), sl_twins⟩)
    (c_twins : PySem.W.codeIn K cd_twins "twins" = true)
    (k_twins : PySem.W.keepIn K (.ref f_twins) = true)
    (a__law_pool : PySem.W.nsIn K mainGlobals "_law_pool" = some (some (.ref f__law_pool)))
    (l__law_pool : K.lookup f__law_pool = some ⟨oc__law_pool, od__law_pool, .func (PySem.W.fnOf "_law_pool" "_law_pool" (defArgs s__law_pool) (defBody s__law_pool) (defScope s__law_pool) .none kV__law_pool dc__law_pool pm__law_pool an__law_pool cd__law_pool ct__law_pool), sl__law_pool⟩)
    (c__law_pool : PySem.W.codeIn K cd__law_pool "_law_pool" = true)
    (k__law_pool : PySem.W.keepIn K (.ref f__law_pool) = true)
    (a__law_draw : PySem.W.nsIn K mainGlobals "_law_draw" = some (some (.ref f__law_draw)))
    (l__law_draw : K.lookup f__law_draw = some ⟨oc__law_draw, od__law_draw, .func (PySem.W.fnOf "_law_draw" "_law_draw" (defArgs s__law_draw) (defBody s__law_draw) (defScope s__law_draw) .none kV__law_draw dc__law_draw pm__law_draw an__law_draw cd__law_draw ct__law_draw), sl__law_draw⟩)
    (c__law_draw : PySem.W.codeIn K cd__law_draw "_law_draw" = true)
    (k__law_draw : PySem.W.keepIn K (.ref f__law_draw) = true)
    (a__law_pick : PySem.W.nsIn K mainGlobals "_law_pick" = some (some (.ref f__law_pick)))
    (l__law_pick : K.lookup f__law_pick = some ⟨oc__law_pick, od__law_pick, .func (PySem.W.fnOf "_law_pick" "_law_pick" (defArgs s__law_pick) (defBody s__law_pick) (defScope s__law_pick) .none kV__law_pick dc__law_pick pm__law_pick an__law_pick cd__law_pick ct__law_pick), sl__law_pick⟩)
    (c__law_pick : PySem.W.codeIn K cd__law_pick "_law_pick" = true)
    (k__law_pick : PySem.W.keepIn K (.ref f__law_pick) = true)
    (a__law_is : PySem.W.nsIn K mainGlobals "_law_is" = some (some (.ref f__law_is)))
    (l__law_is : K.lookup f__law_is = some ⟨oc__law_is, od__law_is, .func (PySem.W.fnOf "_law_is" "_law_is" (defArgs s__law_is) (defBody s__law_is) (defScope s__law_is) .none kV__law_is dc__law_is pm__law_is an__law_is cd__law_is ct__law_is), sl__law_is⟩)
    (c__law_is : PySem.W.codeIn K cd__law_is "_law_is" = true)
    (k__law_is : PySem.W.keepIn K (.ref f__law_is) = true)
    (a__law_mixed : PySem.W.nsIn K mainGlobals "_law_mixed" = some (some (.ref f__law_mixed)))
    (l__law_mixed : K.lookup f__law_mixed = some ⟨oc__law_mixed, od__law_mixed, .func (PySem.W.fnOf "_law_mixed" "_law_mixed" (defArgs s__law_mixed) (defBody s__law_mixed) (defScope s__law_mixed) .none kV__law_mixed dc__law_mixed pm__law_mixed an__law_mixed cd__law_mixed ct__law_mixed), sl__law_mixed⟩)
    (c__law_mixed : PySem.W.codeIn K cd__law_mixed "_law_mixed" = true)
    (k__law_mixed : PySem.W.keepIn K (.ref f__law_mixed) = true)
    (a__law_hung : PySem.W.nsIn K mainGlobals "_law_hung" = some (some (.ref f__law_hung)))
    (l__law_hung : K.lookup f__law_hung = some ⟨oc__law_hung, od__law_hung, .func (PySem.W.fnOf "_law_hung" "_law_hung" (defArgs s__law_hung) (defBody s__law_hung) (defScope s__law_hung) .none kV__law_hung dc__law_hung pm__law_hung an__law_hung cd__law_hung ct__law_hung), sl__law_hung⟩)
    (c__law_hung : PySem.W.codeIn K cd__law_hung "_law_hung" = true)
    (k__law_hung : PySem.W.keepIn K (.ref f__law_hung) = true)
    (a__law_way : PySem.W.nsIn K mainGlobals "_law_way" = some (some (.ref f__law_way)))
    (l__law_way : K.lookup f__law_way = some ⟨oc__law_way, od__law_way, .func (PySem.W.fnOf "_law_way" "_law_way" (defArgs s__law_way) (defBody s__law_way) (defScope s__law_way) .none kV__law_way dc__law_way pm__law_way an__law_way cd__law_way ct__law_way), sl__law_way⟩)
    (c__law_way : PySem.W.codeIn K cd__law_way "_law_way" = true)
    (k__law_way : PySem.W.keepIn K (.ref f__law_way) = true)
    (a__law_tellings : PySem.W.nsIn K mainGlobals "_law_tellings" = some (some (.ref f__law_tellings)))
    (l__law_tellings : K.lookup f__law_tellings = some ⟨oc__law_tellings, od__law_tellings, .func (PySem.W.fnOf "_law_tellings" "_law_tellings" (defArgs s__law_tellings) (defBody s__law_tellings) (defScope s__law_tellings) .none kV__law_tellings dc__law_tellings pm__law_tellings an__law_tellings cd__law_tellings ct__law_tellings), sl__law_tellings⟩)
    (c__law_tellings : PySem.W.codeIn K cd__law_tellings "_law_tellings" = true)
    (k__law_tellings : PySem.W.keepIn K (.ref f__law_tellings) = true)
    (a__law_view : PySem.W.nsIn K mainGlobals "_law_view" = some (some (.ref f__law_view)))
    (l__law_view : K.lookup f__law_view = some ⟨oc__law_view, od__law_view, .func (PySem.W.fnOf "_law_view" "_law_view" (defArgs s__law_view) (defBody s__law_view) (defScope s__law_view) .none kV__law_view dc__law_view pm__law_view an__law_view cd__law_view ct__law_view), sl__law_view⟩)
    (c__law_view : PySem.W.codeIn K cd__law_view "_law_view" = true)
    (k__law_view : PySem.W.keepIn K (.ref f__law_view) = true)
    (a__law_unlike : PySem.W.nsIn K mainGlobals "_law_unlike" = some (some (.ref f__law_unlike)))
    (l__law_unlike : K.lookup f__law_unlike = some ⟨oc__law_unlike, od__law_unlike, .func (PySem.W.fnOf "_law_unlike" "_law_unlike" (defArgs s__law_unlike) (defBody s__law_unlike) (defScope s__law_unlike) .none kV__law_unlike dc__law_unlike pm__law_unlike an__law_unlike cd__law_unlike ct__law_unlike), sl__law_unlike⟩)
    (c__law_unlike : PySem.W.codeIn K cd__law_unlike "_law_unlike" = true)
    (k__law_unlike : PySem.W.keepIn K (.ref f__law_unlike) = true)
    (a__law_distance : PySem.W.nsIn K mainGlobals "_law_distance" = some (some (.ref f__law_distance)))
    (l__law_distance : K.lookup f__law_distance = some ⟨oc__law_distance, od__law_distance, .func (PySem.W.fnOf "_law_distance" "_law_distance" (defArgs s__law_distance) (defBody s__law_distance) (defScope s__law_distance) .none kV__law_distance dc__law_distance pm__law_distance an__law_distance cd__law_distance ct__law_distance), sl__law_distance⟩)
    (c__law_distance : PySem.W.codeIn K cd__law_distance "_law_distance" = true)
    (k__law_distance : PySem.W.keepIn K (.ref f__law_distance) = true)
    (a__law_are_twins : PySem.W.nsIn K mainGlobals "_law_are_twins" = some (some (.ref f__law_are_twins)))
    (l__law_are_twins : K.lookup f__law_are_twins = some ⟨oc__law_are_twins, od__law_are_twins, .func (PySem.W.fnOf "_law_are_twins" "_law_are_twins" (defArgs s__law_are_twins) (defBody s__law_are_twins) (defScope s__law_are_twins) .none kV__law_are_twins dc__law_are_twins pm__law_are_twins an__law_are_twins cd__law_are_twins ct__law_are_twins), sl__law_are_twins⟩)
    (c__law_are_twins : PySem.W.codeIn K cd__law_are_twins "_law_are_twins" = true)
    (k__law_are_twins : PySem.W.keepIn K (.ref f__law_are_twins) = true)
    (a_law : PySem.W.nsIn K mainGlobals "law" = some (some (.ref f_law)))
    (l_law : K.lookup f_law = some ⟨oc_law, od_law, .func (PySem.W.fnOf "law" "law" (defArgs s_law) (defBody s_law) (defScope s_law) .none kV_law dc_law pm_law an_law cd_law ct_law), sl_law⟩)
    (c_law : PySem.W.codeIn K cd_law "law" = true)
    (k_law : PySem.W.keepIn K (.ref f_law) = true)
    (pgT : PySem.W.plainGet K c_Tree Str.empty = true)
    (hdT : PySem.W.hasDictIn K c_Tree = true)
    (poT : PySem.W.plainOver K c_Tree = true)
    (saT : PySem.W.findIn K (.ref c_Tree) "__setattr__" = some (some (.builtin "object.__setattr__")))
    (mkT : PySem.W.makesIn K c_Tree = true)
    (kcT : PySem.W.keepIn K (.ref c_Tree) = true)
    (noT : PySem.W.findIn K (.ref c_Tree) "hung" = some none)
    (haT : PySem.W.findIn K (.ref c_Tree) "__class__" = some (some (.builtin "object.__class__")))
    (hmT : PySem.W.mroIn K c_Tree (.type "object") = some true)
    (icT : PySem.W.isClsIn K c_Tree = true)
    (tyT : PySem.W.typeIn K (.ref c_Tree) = some (.type "type"))
    (spO : PySem.W.specialIn K (.builtin "object.__class__") "__get__" = some (some (.builtin "getset_descriptor.__get__")))
    (tkO : PySem.W.takesIn K (.builtin "object.__class__") = some true)
    (xL : K.lookup c_BadTree = some (excClassObj nm q c_BadTree N bs bm true sn sub ab col dd m0 m1 m2 m3 m5 "ValueError.__new__"))
    (rv : PySem.HandSPX.refsVE bm = true)
    (saB : PySem.W.findIn K (.ref c_BadTree) "__setattr__" = some (some (.builtin "object.__setattr__")))
    (exB : PySem.W.subIn K (.ref c_BadTree) (.type "BaseException") = some true)
    (tyB : PySem.W.typeIn K (.ref c_BadTree) = some (.type "type"))
    (kcB : PySem.W.keepIn K (.ref c_BadTree) = true)
    (tiB : PySem.W.typeIn K (.ref f_BadTree___init__) = some (.type "function"))
    (noB : PySem.W.findIn K (.ref c_BadTree) "part" = some none)
    (xU : K.lookup c_Beneath = some (excClassObj nmU qU c_Beneath NU bsU bmU true snU subU abU colU ddU u0 u1 u2 u3 u5 "ValueError.__new__"))
    (rvU : PySem.HandSPX.refsVE bmU = true)
    (saU : PySem.W.findIn K (.ref c_Beneath) "__setattr__" = some (some (.builtin "object.__setattr__")))
    (exU : PySem.W.subIn K (.ref c_Beneath) (.type "BaseException") = some true)
    (tyU : PySem.W.typeIn K (.ref c_Beneath) = some (.type "type"))
    (kcU : PySem.W.keepIn K (.ref c_Beneath) = true)
    (iU : PySem.W.findIn K (.ref c_Beneath) "__init__" = some (some (.ref f_U)))
    (tiU : PySem.W.typeIn K (.ref f_U) = some (.type "function"))
    (lU : K.lookup f_U = some ⟨ocU, odU, .func (PySem.W.ksFn "__init__" qqU (siA e) (siB p0 p1 p2 p3 p4) siS .none kVU docU pmU anU (.ref cdU) ctU ccU), slU⟩)
    (cU : PySem.W.codeIn K (.ref cdU) qqU = true)
    (ceU : K.lookup ccU = some ⟨clU, cldU, .cell (some (.ref c_Beneath)), cslU⟩)
    (coU : K.lookup cdU = some ⟨cclU, cddU, .fields vsU, ccsU⟩)
    (vsU2 : vsU[2]? = some (.str fileU tfU))
    (fiU : ((P.main.file : Str) == fileU) = true)
    (evU : SupEv p0 p1 p2 p3)
    (upU : PySem.W.ks_superIn K c_Beneath c_Beneath "__init__" = some (some (.builtin "ValueError.__init__")))
    (meU : PySem.W.mroIn K c_Beneath (.ref c_Beneath) = some true)
    (veU : PySem.W.subIn K (.ref c_Beneath) (.type "ValueError") = some true)
    (opU : PySem.W.nsIn K cStatics "thirdparty.any" = some none)
    (tpU : (P.main.scope.names.lookup ("super" : Str)).isSome = false)
    (hdU : PySem.W.hasDictIn K c_Beneath = true)
    (sUU : PySem.W.subIn K (.ref c_Beneath) (.ref c_Beneath) = some true)
    (xT : K.lookup c_Tree = some (excClassObj nmT qT c_Tree NT bsT [.type "object"] hdTT snT subT abT colT ddT w0 w1 w2 w3 w5 newT))
    (okT : PySem.W.nsOkIn K NT = true)
    (eqT : PySem.W.nsIn K NT "__eq__" = some (some (.ref f_Tree___eq__)))
    (neT : PySem.W.nsIn K NT "__ne__" = some none)
    (tqT : PySem.W.typeIn K (.ref f_Tree___eq__) = some (.type "function"))
    : ∃ fd : FuncData, (∀ (s : Shared) (v : Value), BindsTo s fd ⟨[v], []⟩ [("_law_script", v)]) ∧ ∀ base : Heap, K.In base → base.Ns mainGlobals mg → FnOk P w K mg base CX0 8 fa fd ["_law_script"] (spLaw K) := by
  have e := hfa.symm.trans (PySem.W.mg_of X G a_law)
  cases e
  have F_is_within := fun_mk (st := s_is_within) l_is_within c_is_within k_is_within
  have b_is_within := F_is_within.binds (ps := ["least", "most", "thing"]) fun _ _ _ _ _ _ us hl => match us, hl with | [_, _, _], _ => rfl
  have C_is_within := Cal.mk (PySem.W.mg_of X G a_is_within) k_is_within b_is_within
  have F__comes_to_head := fun_mk (st := s__comes_to_head) l__comes_to_head c__comes_to_head k__comes_to_head
  have b__comes_to_head := F__comes_to_head.binds (ps := ["hung", "block"]) fun _ _ _ _ _ _ us hl => match us, hl with | [_, _], _ => rfl
  have C__comes_to_head := Cal.mk (PySem.W.mg_of X G a__comes_to_head) k__comes_to_head b__comes_to_head
  have F_BadTree___init__ := fun_mk (st := s_BadTree___init__) l_BadTree___init__ c_BadTree___init__ k_BadTree___init__
  have b_BadTree___init__ := F_BadTree___init__.binds (ps := ["self", "part"]) fun _ _ _ _ _ _ us hl => match us, hl with | [_, _], _ => rfl
  have C_BadTree___init__ := CalM.mk k_BadTree___init__ b_BadTree___init__
  have F_Tree___init__ := fun_mk (st := s_Tree___init__) l_Tree___init__ c_Tree___init__ k_Tree___init__
  have b_Tree___init__ := F_Tree___init__.binds (ps := ["self", "hung"]) fun _ _ _ _ _ _ us hl => match us, hl with | [_, _], _ => rfl
  have C_Tree___init__ := CalM.mk k_Tree___init__ b_Tree___init__
  have F_Tree___eq__ := fun_mk (st := s_Tree___eq__) l_Tree___eq__ c_Tree___eq__ k_Tree___eq__
  have b_Tree___eq__ := F_Tree___eq__.binds (ps := ["self", "other"]) fun _ _ _ _ _ _ us hl => match us, hl with | [_, _], _ => rfl
  have C_Tree___eq__ := CalM.mk k_Tree___eq__ b_Tree___eq__
  have F_is_block := fun_mk (st := s_is_block) l_is_block c_is_block k_is_block
  have b_is_block := F_is_block.binds (ps := ["tree", "thing"]) fun _ _ _ _ _ _ us hl => match us, hl with | [_, _], _ => rfl
  have C_is_block := Cal.mk (PySem.W.mg_of X G a_is_block) k_is_block b_is_block
  have F_is_place := fun_mk (st := s_is_place) l_is_place c_is_place k_is_place
  have b_is_place := F_is_place.binds (ps := ["tree", "thing"]) fun _ _ _ _ _ _ us hl => match us, hl with | [_, _], _ => rfl
  have C_is_place := Cal.mk (PySem.W.mg_of X G a_is_place) k_is_place b_is_place
  have F_place_of := fun_mk (st := s_place_of) l_place_of c_place_of k_place_of
  have b_place_of := F_place_of.binds (ps := ["tree", "block"]) fun _ _ _ _ _ _ us hl => match us, hl with | [_, _], _ => rfl
  have C_place_of := Cal.mk (PySem.W.mg_of X G a_place_of) k_place_of b_place_of
  have F_parents := fun_mk (st := s_parents) l_parents c_parents k_parents
  have b_parents := F_parents.binds (ps := ["tree", "block"]) fun _ _ _ _ _ _ us hl => match us, hl with | [_, _], _ => rfl
  have C_parents := Cal.mk (PySem.W.mg_of X G a_parents) k_parents b_parents
  have F_under := fun_mk (st := s_under) l_under c_under k_under
  have b_under := F_under.binds (ps := ["tree", "place"]) fun _ _ _ _ _ _ us hl => match us, hl with | [_, _], _ => rfl
  have C_under := Cal.mk (PySem.W.mg_of X G a_under) k_under b_under
  have F_beneath := fun_mk (st := s_beneath) l_beneath c_beneath k_beneath
  have b_beneath := F_beneath.binds (ps := ["tree", "place"]) fun _ _ _ _ _ _ us hl => match us, hl with | [_, _], _ => rfl
  have C_beneath := Cal.mk (PySem.W.mg_of X G a_beneath) k_beneath b_beneath
  have F_moved := fun_mk (st := s_moved) l_moved c_moved k_moved
  have b_moved := F_moved.binds (ps := ["tree", "block", "place"]) fun _ _ _ _ _ _ us hl => match us, hl with | [_, _, _], _ => rfl
  have C_moved := Cal.mk (PySem.W.mg_of X G a_moved) k_moved b_moved
  have F_is_view := fun_mk (st := s_is_view) l_is_view c_is_view k_is_view
  have b_is_view := F_is_view.binds (ps := ["thing"]) fun _ _ _ _ _ _ us hl => match us, hl with | [_], _ => rfl
  have C_is_view := Cal.mk (PySem.W.mg_of X G a_is_view) k_is_view b_is_view
  have F_telling := fun_mk (st := s_telling) l_telling c_telling k_telling
  have b_telling := F_telling.binds (ps := ["tree", "view", "place"]) fun _ _ _ _ _ _ us hl => match us, hl with | [_, _, _], _ => rfl
  have C_telling := Cal.mk (PySem.W.mg_of X G a_telling) k_telling b_telling
  have F__row_told := fun_mk (st := s__row_told) l__row_told c__row_told k__row_told
  have b__row_told := F__row_told.binds (ps := ["tree", "up", "place"]) fun _ _ _ _ _ _ us hl => match us, hl with | [_, _, _], _ => rfl
  have C__row_told := Cal.mk (PySem.W.mg_of X G a__row_told) k__row_told b__row_told
  have F__ties_told := fun_mk (st := s__ties_told) l__ties_told c__ties_told k__ties_told
  have b__ties_told := F__ties_told.binds (ps := ["tree", "down", "place"]) fun _ _ _ _ _ _ us hl => match us, hl with | [_, _, _], _ => rfl
  have C__ties_told := Cal.mk (PySem.W.mg_of X G a__ties_told) k__ties_told b__ties_told
  have F_unlike := fun_mk (st := s_unlike) l_unlike c_unlike k_unlike
  have b_unlike := F_unlike.binds (ps := ["tree", "other", "view"]) fun _ _ _ _ _ _ us hl => match us, hl with | [_, _, _], _ => rfl
  have C_unlike := Cal.mk (PySem.W.mg_of X G a_unlike) k_unlike b_unlike
  have F_distance := fun_mk (st := s_distance) l_distance c_distance k_distance
  have b_distance := F_distance.binds (ps := ["view"]) fun _ _ _ _ _ _ us hl => match us, hl with | [_], _ => rfl
  have C_distance := Cal.mk (PySem.W.mg_of X G a_distance) k_distance b_distance
  have F_twins := fun_mk (st := s_twins) l_twins c_twins k_twins
  have b_twins := F_twins.binds (ps := ["view", "blocks"]) fun _ _ _ _ _ _ us hl => match us, hl with | [_, _], _ => rfl
  have C_twins := Cal.mk (PySem.W.mg_of X G a_twins) k_twins b_twins
  have F__law_pool := fun_mk (st := s__law_pool) l__law_pool c__law_pool k__law_pool
  have b__law_pool := F__law_pool.binds (ps := ["_law_script"]) fun _ _ _ _ _ _ us hl => match us, hl with | [_], _ => rfl
  have C__law_pool := Cal.mk (PySem.W.mg_of X G a__law_pool) k__law_pool b__law_pool
  have F__law_draw := fun_mk (st := s__law_draw) l__law_draw c__law_draw k__law_draw
  have b__law_draw := F__law_draw.binds (ps := ["_law_pool_here", "_law_many"]) fun _ _ _ _ _ _ us hl => match us, hl with | [_, _], _ => rfl
  have C__law_draw := Cal.mk (PySem.W.mg_of X G a__law_draw) k__law_draw b__law_draw
  have F__law_pick := fun_mk (st := s__law_pick) l__law_pick c__law_pick k__law_pick
  have b__law_pick := F__law_pick.binds (ps := ["_law_pool_here", "_law_things"]) fun _ _ _ _ _ _ us hl => match us, hl with | [_, _], _ => rfl
  have C__law_pick := Cal.mk (PySem.W.mg_of X G a__law_pick) k__law_pick b__law_pick
  have F__law_is := fun_mk (st := s__law_is) l__law_is c__law_is k__law_is
  have b__law_is := F__law_is.binds (ps := ["_law_told", "_law_due"]) fun _ _ _ _ _ _ us hl => match us, hl with | [_, _], _ => rfl
  have C__law_is := Cal.mk (PySem.W.mg_of X G a__law_is) k__law_is b__law_is
  have F__law_mixed := fun_mk (st := s__law_mixed) l__law_mixed c__law_mixed k__law_mixed
  have b__law_mixed := F__law_mixed.binds (ps := ["_law_pool_here", "_law_many"]) fun _ _ _ _ _ _ us hl => match us, hl with | [_, _], _ => rfl
  have C__law_mixed := Cal.mk (PySem.W.mg_of X G a__law_mixed) k__law_mixed b__law_mixed
  have F__law_hung := fun_mk (st := s__law_hung) l__law_hung c__law_hung k__law_hung
  have b__law_hung := F__law_hung.binds (ps := ["_law_pool_here", "_law_many"]) fun _ _ _ _ _ _ us hl => match us, hl with | [_, _], _ => rfl
  have C__law_hung := Cal.mk (PySem.W.mg_of X G a__law_hung) k__law_hung b__law_hung
  have F__law_way := fun_mk (st := s__law_way) l__law_way c__law_way k__law_way
  have b__law_way := F__law_way.binds (ps := ["_law_hung_here", "_law_place"]) fun _ _ _ _ _ _ us hl => match us, hl with | [_, _], _ => rfl
  have C__law_way := Cal.mk (PySem.W.mg_of X G a__law_way) k__law_way b__law_way
  have F__law_tellings := fun_mk (st := s__law_tellings) l__law_tellings c__law_tellings k__law_tellings
  have b__law_tellings := F__law_tellings.binds (ps := ["_law_hung_here", "_law_view_here"]) fun _ _ _ _ _ _ us hl => match us, hl with | [_, _], _ => rfl
  have C__law_tellings := Cal.mk (PySem.W.mg_of X G a__law_tellings) k__law_tellings b__law_tellings
  have F__law_view := fun_mk (st := s__law_view) l__law_view c__law_view k__law_view
  have b__law_view := F__law_view.binds (ps := ["_law_pool_here"]) fun _ _ _ _ _ _ us hl => match us, hl with | [_], _ => rfl
  have C__law_view := Cal.mk (PySem.W.mg_of X G a__law_view) k__law_view b__law_view
  have F__law_unlike := fun_mk (st := s__law_unlike) l__law_unlike c__law_unlike k__law_unlike
  have b__law_unlike := F__law_unlike.binds (ps := ["_law_one", "_law_other", "_law_view_here"]) fun _ _ _ _ _ _ us hl => match us, hl with | [_, _, _], _ => rfl
  have C__law_unlike := Cal.mk (PySem.W.mg_of X G a__law_unlike) k__law_unlike b__law_unlike
  have F__law_distance := fun_mk (st := s__law_distance) l__law_distance c__law_distance k__law_distance
  have b__law_distance := F__law_distance.binds (ps := ["_law_view_here"]) fun _ _ _ _ _ _ us hl => match us, hl with | [_], _ => rfl
  have C__law_distance := Cal.mk (PySem.W.mg_of X G a__law_distance) k__law_distance b__law_distance
  have F__law_are_twins := fun_mk (st := s__law_are_twins) l__law_are_twins c__law_are_twins k__law_are_twins
  have b__law_are_twins := F__law_are_twins.binds (ps := ["_law_told", "_law_view_here", "_law_many"]) fun _ _ _ _ _ _ us hl => match us, hl with | [_, _, _], _ => rfl
  have C__law_are_twins := Cal.mk (PySem.W.mg_of X G a__law_are_twins) k__law_are_twins b__law_are_twins
  have F_law := fun_mk (st := s_law) l_law c_law k_law
  have b_law := F_law.binds (ps := ["_law_script"]) fun _ _ _ _ _ _ us hl => match us, hl with | [_], _ => rfl
  have C_law := Cal.mk (PySem.W.mg_of X G a_law) k_law b_law
  have B : Bl ⟨c_VoteError, c_BadTree, c_NoBlock, c_NoPlace, c_Beneath, c_NoView, c_OtherBlocks, c_NoNumber, c_Tree, t_MOST_BLOCKS, t_MOST_STEPS⟩ mg := ⟨PySem.W.mg_none_of X G z_abs, PySem.W.mg_none_of X G z_all, PySem.W.mg_none_of X G z_bool, PySem.W.mg_none_of X G z_dict, PySem.W.mg_none_of X G z_enumerate, PySem.W.mg_none_of X G z_int, PySem.W.mg_none_of X G z_isinstance, PySem.W.mg_none_of X G z_len, PySem.W.mg_none_of X G z_list, PySem.W.mg_none_of X G z_range, PySem.W.mg_none_of X G z_sorted, PySem.W.mg_none_of X G z_super, PySem.W.mg_none_of X G z_tuple, PySem.W.mg_of X G n_VoteError, PySem.W.mg_of X G n_BadTree, PySem.W.mg_of X G n_NoBlock, PySem.W.mg_of X G n_NoPlace, PySem.W.mg_of X G n_Beneath, PySem.W.mg_of X G n_NoView, PySem.W.mg_of X G n_OtherBlocks, PySem.W.mg_of X G n_NoNumber, PySem.W.mg_of X G n_Tree, PySem.W.mg_of X G n_MOST_BLOCKS, PySem.W.mg_of X G n_MOST_STEPS⟩
  have hc : Cls K c_Tree := ⟨pgT, hdT, poT, saT⟩
  have hI : IsC K c_Tree := ⟨hc, haT, spO, tkO, hmT, if_pos (beq_self_eq_true _), kit_ref rfl icT tyT (sub_tuple K c_Tree)⟩
  have hX : OexC K c_BadTree := ⟨⟨nm, q, N, bs, bm, sn, sub, ab, col, dd, m0, m1, m2, m3, m5, xL, rv⟩, saB, exB, tyB, kcB⟩
  have hE : ExcF K c_BadTree f_BadTree___init__ "part" := ⟨hX, a_BadTree___init__, tiB, noB⟩
  have hU : SupC P K c_Beneath f_U := ⟨⟨⟨nmU, qU, NU, bsU, bmU, snU, subU, abU, colU, ddU, u0, u1, u2, u3, u5, xU, rvU⟩, saU, exU, tyU, kcU⟩, iU, tiU, ⟨ocU, odU, kVU, docU, pmU, anU, cdU, ctU, slU, ccU, qqU, e, p0, p1, p2, p3, p4, lU, cU, ⟨clU, cldU, cslU, ceU⟩, cclU, cddU, vsU, ccsU, fileU, tfU, coU, vsU2, fiU, evU⟩, upU, meU, veU, opU, tpU⟩
  have hM : Mk K c_Tree f_Tree___init__ := ⟨mkT, a_Tree___init__, i_Tree___init__, kcT⟩
  have hN : OwnN K c_Tree f_Tree___eq__ := ⟨⟨nmT, qT, NT, bsT, hdTT, snT, subT, abT, colT, ddT, w0, w1, w2, w3, w5, newT, xT, okT, eqT, neT⟩, tqT⟩
  refine ⟨PySem.W.fnOf "law" "law" (defArgs s_law) (defBody s_law) (defScope s_law) .none kV_law dc_law pm_law an_law cd_law ct_law, fun s v => .of_eq rfl, fun base _ _ => ?_⟩
  have G_draw := ok_draw (P := P) (w := w) (base := base) F__law_draw B
  have G_mixed := ok_mixed F__law_mixed B C__law_draw G_draw
  have G_hung := ok_hung F__law_hung B C__law_draw G_draw C__law_mixed G_mixed
  have G_within := ok_within (P := P) (w := w) (base := base) F_is_within B
  have G_comes := ok_comes (P := P) (w := w) (base := base) F__comes_to_head B
  have G_bad := ok_bad (mg := mg) (P := P) (w := w) (base := base) (Z := ⟨c_VoteError, c_BadTree, c_NoBlock, c_NoPlace, c_Beneath, c_NoView, c_OtherBlocks, c_NoNumber, c_Tree, t_MOST_BLOCKS, t_MOST_STEPS⟩) F_BadTree___init__ hE
  have G_tree := ok_tree F_Tree___init__ B hc noT C_is_within G_within C__comes_to_head G_comes C_BadTree___init__ G_bad hE
  have G_eq := ok_eqT (P := P) (w := w) (base := base) F_Tree___eq__ B hI noT
  have G_is1 := ok_is (P := P) (w := w) (base := base) F__law_is B C__law_is 1
  have G_isb := ok_isBlock F_is_block B hc noT C_is_within G_within
  have G_isp := ok_isPlace F_is_place B hc noT C_is_within G_within
  have G_place := ok_place F_place_of B hc noT C_is_block G_isb
  have G_par := ok_parents F_parents B C_place_of G_place
  have G_under := ok_under F_under B hc noT C_is_place G_isp
  have G_ben := ok_beneath F_beneath B hc noT C_is_place G_isp C_parents G_par
  have G_moved := ok_moved F_moved B hc noT hU C_is_block G_isb C_is_place G_isp C_beneath G_ben C_Tree___init__ G_tree hM
  have G_way := ok_way (P := P) (w := w) (base := base) F__law_way B
  have G_isv := ok_isView (P := P) (w := w) (base := base) F_is_view B C_is_within G_within
  have G_row := ok_row F__row_told B C_parents G_par
  have G_ties := ok_ties F__ties_told B C_under G_under
  have G_tell := ok_tell F_telling B C_is_view G_isv C_is_place G_isp C__row_told G_row C__ties_told G_ties
  have G_unlike := ok_unlike F_unlike B hI hc noT C_is_view G_isv C_telling G_tell
  have G_tels := ok_tels (P := P) (w := w) (base := base) F__law_tellings B C__law_way G_way
  have G_view := ok_view2 (P := P) (w := w) (base := base) F__law_view B C__law_draw G_draw
  have G_unl := ok_unl F__law_unlike B C__law_tellings G_tels
  have G_dist := ok_dist (P := P) (w := w) (base := base) F_distance B C_is_view G_isv
  have G_twins := ok_twins F_twins B C_is_view G_isv C_is_within G_within C_Tree___init__ G_tree hM
  have G_dist2 := ok_dist2 (P := P) (w := w) (base := base) F__law_distance B
  have G_are := ok_are F__law_are_twins B hI hc noT C__law_unlike G_unl C__law_distance G_dist2
  have G_pick := ok_pick F__law_pick B C__law_draw G_draw
  have G_pool := ok_pool (P := P) (w := w) (base := base) F__law_pool B
  have hO : OwnQ K c_Tree f_Tree___eq__ := ⟨a_Tree___eq__, i_Tree___eq__⟩
  exact ok_law F_law B hc noT C__law_pool G_pool C__law_draw G_draw C__law_pick G_pick C__law_hung G_hung C__law_is G_is1 C__law_view G_view C__law_way G_way C__law_unlike G_unl C__law_distance G_dist2 C__law_are_twins G_are C_distance G_dist C_twins G_twins C_unlike G_unlike C_moved G_moved C_Tree___eq__ (ok_treq G_eq) hO C_Tree___init__ G_tree hM
end Fv
open PySem PySem.W PyProof.Rows in
set_option maxRecDepth 100000 in
set_option maxHeartbeats 0 in
theorem PySem.Challenge.cw_foldervotes_k06_whole_twins_and_trees_of_holds : PySem.Challenge.rw_foldervotes_k06_whole_twins_and_trees_of.Holds := by
  w_on; o_law; k_head; (case hw => w_witness2)
  k_fill
  refine L2.walk_of (l := PySem.Challenge.rw_foldervotes_k06_whole_twins_and_trees_of) (n := 63) (k := 8) (x := "_law_script") (CX := fun _ => L2.CX0) (sp := fun w => Fv.spLaw _) rfl (by decide) rfl ⟨rfl, by decide, by decide⟩ (fun w h Y => PySem.W.kIn_of Y) ?F (fun _ _ a ns hl _ hS => ⟨a, ns, rfl, hS, hl, fun _ => rfl⟩) (fun _ _ _ _ _ h => h)
  case F =>
    intro w mg fa h KX G hmg
    refine' Fv.all_mk KX G hmg ?n_VoteError ?n_BadTree ?n_NoBlock ?n_NoPlace ?n_Beneath ?n_NoView ?n_OtherBlocks ?n_NoNumber ?n_Tree ?n_MOST_BLOCKS ?n_MOST_STEPS ?z_abs ?z_all ?z_bool ?z_dict ?z_enumerate ?z_int ?z_isinstance ?z_len ?z_list ?z_range ?z_sorted ?z_super ?z_tuple ?a_is_within ?l_is_within ?c_is_within ?k_is_within ?a__comes_to_head ?l__comes_to_head ?c__comes_to_head ?k__comes_to_head ?a_BadTree___init__ ?i_BadTree___init__ ?l_BadTree___init__ ?c_BadTree___init__ ?k_BadTree___init__ ?a_Tree___init__ ?i_Tree___init__ ?l_Tree___init__ ?c_Tree___init__ ?k_Tree___init__ ?a_Tree___eq__ ?i_Tree___eq__ ?l_Tree___eq__ ?c_Tree___eq__ ?k_Tree___eq__ ?a_is_block ?l_is_block ?c_is_block ?k_is_block ?a_is_place ?l_is_place ?c_is_place ?k_is_place ?a_place_of ?l_place_of ?c_place_of ?k_place_of ?a_parents ?l_parents ?c_parents ?k_parents ?a_under ?l_under ?c_under ?k_under ?a_beneath ?l_beneath ?c_beneath ?k_beneath ?a_moved ?l_moved ?c_moved ?k_moved ?a_is_view ?l_is_view ?c_is_view ?k_is_view ?a_telling ?l_telling ?c_telling ?k_telling ?a__row_told ?l__row_told ?c__row_told ?k__row_told ?a__ties_told ?l__ties_told ?c__ties_told ?k__ties_told ?a_unlike ?l_unlike ?c_unlike ?k_unlike ?a_distance ?l_distance ?c_distance ?k_distance ?a_twins ?l_twins ?c_twins ?k_twins ?a__law_pool ?l__law_pool ?c__law_pool ?k__law_pool ?a__law_draw ?l__law_draw ?c__law_draw ?k__law_draw ?a__law_pick ?l__law_pick ?c__law_pick ?k__law_pick ?a__law_is ?l__law_is ?c__law_is ?k__law_is ?a__law_mixed ?l__law_mixed ?c__law_mixed ?k__law_mixed ?a__law_hung ?l__law_hung ?c__law_hung ?k__law_hung ?a__law_way ?l__law_way ?c__law_way ?k__law_way ?a__law_tellings ?l__law_tellings ?c__law_tellings ?k__law_tellings ?a__law_view ?l__law_view ?c__law_view ?k__law_view ?a__law_unlike ?l__law_unlike ?c__law_unlike ?k__law_unlike ?a__law_distance ?l__law_distance ?c__law_distance ?k__law_distance ?a__law_are_twins ?l__law_are_twins ?c__law_are_twins ?k__law_are_twins ?a_law ?l_law ?c_law ?k_law ?pgT ?hdT ?poT ?saT ?mkT ?kcT ?noT ?haT ?hmT ?icT ?tyT ?spO ?tkO ?xL ?rv ?saB ?exB ?tyB ?kcB ?tiB ?noB ?xU ?rvU ?saU ?exU ?tyU ?kcU ?iU ?tiU ?lU ?cU ?ceU ?coU ?vsU2 ?fiU ?evU ?upU ?meU ?veU ?opU ?tpU ?hdU ?sUU ?xT ?okT ?eqT ?neT ?tqT
    (case n_VoteError => k_is)
    (case n_BadTree => k_is)
    (case n_NoBlock => k_is)
    (case n_NoPlace => k_is)
    (case n_Beneath => k_is)
    (case n_NoView => k_is)
    (case n_OtherBlocks => k_is)
    (case n_NoNumber => k_is)
    (case n_Tree => k_is)
    (case n_MOST_BLOCKS => k_is)
    (case n_MOST_STEPS => k_is)
    (case z_abs => k_is)
    (case z_all => k_is)
    (case z_bool => k_is)
    (case z_dict => k_is)
    (case z_enumerate => k_is)
    (case z_int => k_is)
    (case z_isinstance => k_is)
    (case z_len => k_is)
    (case z_list => k_is)
    (case z_range => k_is)
    (case z_sorted => k_is)
    (case z_super => k_is)
    (case z_tuple => k_is)
    (case a_is_within => k_is)
    (case l_is_within => k_is)
    (case c_is_within => k_is)
    (case k_is_within => k_is)
    (case a__comes_to_head => k_is)
    (case l__comes_to_head => k_is)
    (case c__comes_to_head => k_is)
    (case k__comes_to_head => k_is)
    (case a_BadTree___init__ => k_is)
    (case i_BadTree___init__ => k_is)
    (case l_BadTree___init__ => k_is)
    (case c_BadTree___init__ => k_is)
    (case k_BadTree___init__ => k_is)
    (case a_Tree___init__ => k_is)
    (case i_Tree___init__ => k_is)
    (case l_Tree___init__ => k_is)
    (case c_Tree___init__ => k_is)
    (case k_Tree___init__ => k_is)
    (case a_Tree___eq__ => k_is)
    (case i_Tree___eq__ => k_is)
    (case l_Tree___eq__ => k_is)
    (case c_Tree___eq__ => k_is)
    (case k_Tree___eq__ => k_is)
    (case a_is_block => k_is)
    (case l_is_block => k_is)
    (case c_is_block => k_is)
    (case k_is_block => k_is)
    (case a_is_place => k_is)
    (case l_is_place => k_is)
    (case c_is_place => k_is)
    (case k_is_place => k_is)
    (case a_place_of => k_is)
    (case l_place_of => k_is)
    (case c_place_of => k_is)
    (case k_place_of => k_is)
    (case a_parents => k_is)
    (case l_parents => k_is)
    (case c_parents => k_is)
    (case k_parents => k_is)
    (case a_under => k_is)
    (case l_under => k_is)
    (case c_under => k_is)
    (case k_under => k_is)
    (case a_beneath => k_is)
    (case l_beneath => k_is)
    (case c_beneath => k_is)
    (case k_beneath => k_is)
    (case a_moved => k_is)
    (case l_moved => k_is)
    (case c_moved => k_is)
    (case k_moved => k_is)
    (case a_is_view => k_is)
    (case l_is_view => k_is)
    (case c_is_view => k_is)
    (case k_is_view => k_is)
    (case a_telling => k_is)
    (case l_telling => k_is)
    (case c_telling => k_is)
    (case k_telling => k_is)
    (case a__row_told => k_is)
    (case l__row_told => k_is)
    (case c__row_told => k_is)
    (case k__row_told => k_is)
    (case a__ties_told => k_is)
    (case l__ties_told => k_is)
    (case c__ties_told => k_is)
    (case k__ties_told => k_is)
    (case a_unlike => k_is)
    (case l_unlike => k_is)
    (case c_unlike => k_is)
    (case k_unlike => k_is)
    (case a_distance => k_is)
    (case l_distance => k_is)
    (case c_distance => k_is)
    (case k_distance => k_is)
    (case a_twins => k_is)
    (case l_twins => k_is)
    (case c_twins => k_is)
    (case k_twins => k_is)
    (case a__law_pool => k_is)
    (case l__law_pool => k_is)
    (case c__law_pool => k_is)
    (case k__law_pool => k_is)
    (case a__law_draw => k_is)
    (case l__law_draw => k_is)
    (case c__law_draw => k_is)
    (case k__law_draw => k_is)
    (case a__law_pick => k_is)
    (case l__law_pick => k_is)
    (case c__law_pick => k_is)
    (case k__law_pick => k_is)
    (case a__law_is => k_is)
    (case l__law_is => k_is)
    (case c__law_is => k_is)
    (case k__law_is => k_is)
    (case a__law_mixed => k_is)
    (case l__law_mixed => k_is)
    (case c__law_mixed => k_is)
    (case k__law_mixed => k_is)
    (case a__law_hung => k_is)
    (case l__law_hung => k_is)
    (case c__law_hung => k_is)
    (case k__law_hung => k_is)
    (case a__law_way => k_is)
    (case l__law_way => k_is)
    (case c__law_way => k_is)
    (case k__law_way => k_is)
    (case a__law_tellings => k_is)
    (case l__law_tellings => k_is)
    (case c__law_tellings => k_is)
    (case k__law_tellings => k_is)
    (case a__law_view => k_is)
    (case l__law_view => k_is)
    (case c__law_view => k_is)
    (case k__law_view => k_is)
    (case a__law_unlike => k_is)
    (case l__law_unlike => k_is)
    (case c__law_unlike => k_is)
    (case k__law_unlike => k_is)
    (case a__law_distance => k_is)
    (case l__law_distance => k_is)
    (case c__law_distance => k_is)
    (case k__law_distance => k_is)
    (case a__law_are_twins => k_is)
    (case l__law_are_twins => k_is)
    (case c__law_are_twins => k_is)
    (case k__law_are_twins => k_is)
    (case a_law => k_is)
    (case l_law => k_is)
    (case c_law => k_is)
    (case k_law => k_is)
    (case pgT => k_is)
    (case hdT => k_is)
    (case poT => k_is)
    (case saT => k_is)
    (case mkT => k_is)
    (case kcT => k_is)
    (case noT => k_is)
    (case haT => k_is)
    (case hmT => k_is)
    (case icT => k_is)
    (case tyT => k_is)
    (case spO => k_is)
    (case tkO => k_is)
    (case xL => k_is)
    (case rv => decide +kernel)
    (case saB => k_is)
    (case exB => k_is)
    (case tyB => k_is)
    (case kcB => k_is)
    (case tiB => k_is)
    (case noB => k_is)
    (case xU => k_is)
    (case rvU => decide +kernel)
    (case saU => k_is)
    (case exU => k_is)
    (case tyU => k_is)
    (case kcU => k_is)
    (case iU => k_is)
    (case tiU => k_is)
    (case lU => k_is)
    (case cU => k_is)
    (case ceU => k_is)
    (case coU => k_is)
    (case vsU2 => rfl)
    (case fiU => first | rfl | decide +kernel)
    (case evU => exact fun _ _ _ _ _ => ⟨_, rfl⟩)
    (case upU => ks_is)
    (case meU => k_is)
    (case veU => k_is)
    (case opU => k_is)
    (case tpU => first | rfl | decide +kernel)
    (case hdU => k_is)
    (case sUU => first | k_is | rfl)
    (case xT => k_is)
    (case okT => first | rfl | decide +kernel | kernel_rfl)
    (case eqT => k_is)
    (case neT => k_is)
    (case tqT => k_is)
