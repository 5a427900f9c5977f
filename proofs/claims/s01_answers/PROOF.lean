import PyProof.Rows.All
import Wide.All
import OpenK.AllK
import Wide.FinOn
import Open.SpecLaws
import KE.OsGo
import HandS.ForSpec
import Sr99Spec
import Sr99Neutral
import PyFlat
import PyInside
import PySr99
import HandS.Lambda
import HandS.Nested
import HandS.EndTab
import PyProof.Rows.SortShell
import PyProof.Rows.CallKwBuiltin
import KE.KSortTup
import KE.KSortKey
import KE.KLam
import HandS.Comp
import HandS.Sort
import HandS.SortOrd
import HandS.SortRule
import HandS.SortKw
import HandS.Conv
import HandS.CallLocal
import HandS.ForMost
import PySem.Challenge.RW_ovenbatches_s01_answers
import HandS.SortInts
import KE.DatumOrd
import HandS.Walk
set_option Elab.async false
set_option linter.all false
set_option maxRecDepth 100000
set_option maxHeartbeats 4000000
namespace Ovb
open Sr99

/-! ### lists -/
theorem sum_cons (x : Nat) (l : List Nat) : SrCommon.sum (x :: l) = x + SrCommon.sum l := by
  have h : ∀ (l : List Nat) (a : Nat), l.foldl (· + ·) a = a + l.foldl (· + ·) 0 := by
    intro l
    induction l with
    | nil => intro a; simp
    | cons y r ih =>
      intro a
      rw [List.foldl_cons, List.foldl_cons, ih (a + y), ih (0 + y)]
      omega
  show (x :: l).foldl (· + ·) 0 = x + l.foldl (· + ·) 0
  rw [List.foldl_cons, h l (0 + x)]
  omega
theorem sum_nil : SrCommon.sum [] = 0 := rfl
theorem sum_int : ∀ l : List Nat, (l.map fun (x : Nat) => (x : Int)).sum = (SrCommon.sum l : Int)
  | [] => rfl
  | x :: r => by
    rw [List.map_cons, List.sum_cons, sum_int r, sum_cons]
    omega
theorem sum_pos_iff : ∀ l : List Nat, 0 < SrCommon.sum l ↔ ∃ i, 0 < l.getD i 0
  | [] => by
    rw [sum_nil]
    constructor
    · intro h; omega
    · rintro ⟨i, h⟩; simp at h
  | x :: r => by
    rw [sum_cons]
    have ih := sum_pos_iff r
    constructor
    · intro h
      by_cases hx : 0 < x
      · exact ⟨0, by simpa using hx⟩
      · obtain ⟨i, hi⟩ := ih.mp (by omega)
        exact ⟨i + 1, by simpa using hi⟩
    · rintro ⟨i, hi⟩
      cases i with
      | zero =>
        have : 0 < x := by simpa using hi
        omega
      | succ i =>
        have := ih.mpr ⟨i, by simpa using hi⟩
        omega

/-! ### the order of filling -/
/-- by the greatest temperature, then by the number -/
def Bef (o : Oven) (i j : Nat) : Prop :=
  (productAt o i).maxTemperature < (productAt o j).maxTemperature ∨ ((productAt o i).maxTemperature = (productAt o j).maxTemperature ∧ i < j)
theorem Bef.irr {o : Oven} {i : Nat} : ¬ Bef o i i := by
  unfold Bef
  omega
theorem Bef.asym {o : Oven} {i j : Nat} (h : Bef o i j) : ¬ Bef o j i := by
  unfold Bef at *
  omega
theorem Bef.trans {o : Oven} {i j k : Nat} (h : Bef o i j) (h' : Bef o j k) : Bef o i k := by
  unfold Bef at *
  omega

theorem ins_perm (o : Oven) (x : Nat) : ∀ l : List Nat, (insertByMaximum o x l).Perm (x :: l)
  | [] => List.Perm.refl _
  | y :: r => by
    unfold insertByMaximum
    split
    · exact List.Perm.refl _
    · exact ((ins_perm o x r).cons y).trans (List.Perm.swap x y r)
theorem ins_sorted (o : Oven) (x : Nat) : ∀ l : List Nat, l.Pairwise (Bef o) → (∀ y ∈ l, y < x) → (insertByMaximum o x l).Pairwise (Bef o)
  | [], _, _ => List.pairwise_singleton _ _
  | y :: r, h, hx => by
    unfold insertByMaximum
    obtain ⟨h1, h2⟩ := List.pairwise_cons.mp h
    split
    · rename_i c
      refine List.pairwise_cons.mpr ⟨fun z hz => ?_, h⟩
      have a : Bef o x y := .inl c
      rcases List.mem_cons.mp hz with e | e
      · rw [e]; exact a
      · exact a.trans (h1 z e)
    · rename_i c
      refine List.pairwise_cons.mpr ⟨fun z hz => ?_, ins_sorted o x r h2 fun z hz => hx z (List.mem_cons_of_mem _ hz)⟩
      rcases List.mem_cons.mp ((ins_perm o x r).mem_iff.mp hz) with e | e
      · rw [e]
        have := hx y (List.mem_cons_self ..)
        unfold Bef
        omega
      · exact h1 z e
theorem fold_ins (o : Oven) : ∀ (l acc : List Nat), l.Pairwise (· < ·) → acc.Pairwise (Bef o) → (∀ y ∈ acc, ∀ x ∈ l, y < x) →
    (l.foldl (fun s i => insertByMaximum o i s) acc).Pairwise (Bef o) ∧ (l.foldl (fun s i => insertByMaximum o i s) acc).Perm (acc ++ l)
  | [], acc, _, h, _ => ⟨h, by simp⟩
  | x :: r, acc, hl, h, hx => by
    obtain ⟨l1, l2⟩ := List.pairwise_cons.mp hl
    obtain ⟨a, b⟩ := fold_ins o r (insertByMaximum o x acc) l2 (ins_sorted o x acc h fun y hy => hx y hy x (List.mem_cons_self ..)) fun y hy z hz => by
      rcases List.mem_cons.mp ((ins_perm o x acc).mem_iff.mp hy) with e | e
      · rw [e]; exact l1 z hz
      · exact hx y e z (List.mem_cons_of_mem _ hz)
    refine ⟨a, b.trans ?_⟩
    refine (List.Perm.append_right r (ins_perm o x acc)).trans ?_
    show (x :: (acc ++ r)).Perm (acc ++ x :: r)
    exact List.perm_middle.symm
/-- a list in that order is the only one of its members -/
theorem bef_uniq {o : Oven} : ∀ {l m : List Nat}, l.Pairwise (Bef o) → m.Pairwise (Bef o) → l.Perm m → l = m
  | [], m, _, _, p => (List.Perm.eq_nil p.symm).symm
  | x :: l, [], _, _, p => absurd p.length_eq (by simp)
  | x :: l, y :: m, hl, hm, p => by
    obtain ⟨l1, l2⟩ := List.pairwise_cons.mp hl
    obtain ⟨m1, m2⟩ := List.pairwise_cons.mp hm
    have e : x = y := by
      rcases List.mem_cons.mp (p.mem_iff.mp (List.mem_cons_self (a := x) (l := l))) with e | e
      · exact e
      · rcases List.mem_cons.mp (p.mem_iff.mpr (List.mem_cons_self (a := y) (l := m))) with e' | e'
        · exact e'.symm
        · exact absurd (m1 x e) (l1 y e').asym
    subst e
    rw [bef_uniq l2 m2 p.cons_inv]
def isCand (o : Oven) (rem : List Nat) (T i : Nat) : Bool := decide (0 < rem.getD i 0) &&
    (decide ((productAt o i).minTemperature ≤ T) && decide (T ≤ (productAt o i).maxTemperature))
theorem cand_def (o : Oven) (rem : List Nat) (T : Nat) : candidates o rem T = ((List.range o.products.length).filter (isCand o rem T)).foldl (fun s i => insertByMaximum o i s) [] := rfl
theorem cand_all (o : Oven) (rem : List Nat) (T : Nat) : (candidates o rem T).Pairwise (Bef o) ∧ (candidates o rem T).Perm ((List.range o.products.length).filter (isCand o rem T)) := by
  rw [cand_def]
  have := fold_ins o ((List.range o.products.length).filter (isCand o rem T)) [] (List.Pairwise.filter _ List.pairwise_lt_range) List.Pairwise.nil (fun y hy => absurd hy (by simp))
  simpa using this
/-- the whole order, filtered, is the candidates -/
theorem cand_filter {o : Oven} {is : List Nat} (hp : is.Perm (List.range o.products.length)) (hs : is.Pairwise (Bef o)) (rem : List Nat) (T : Nat) : is.filter (isCand o rem T) = candidates o rem T := by
  obtain ⟨a, b⟩ := cand_all o rem T
  exact bef_uniq (hs.filter _) a ((hp.filter _).trans b.symm)

/-! ### filling -/
def isBaked (o : Oven) (T i : Nat) : Bool := decide ((productAt o i).minTemperature ≤ T) && decide (T ≤ (productAt o i).maxTemperature)
/-- one turn of the program's loop: room, tins -/
def turn (o : Oven) (rem : List Nat) (T : Nat) (s : Nat × List Nat) (i : Nat) : Nat × List Nat :=
  if isBaked o T i = true then (s.1 - min (rem.getD i 0) s.1, s.2.set i (min (rem.getD i 0) s.1)) else s
def poured (o : Oven) (rem : List Nat) (T : Nat) (is : List Nat) : Nat × List Nat := is.foldl (turn o rem T) (o.capacity, List.replicate o.products.length 0)
theorem set_same {l : List Nat} {i : Nat} (h : l.getD i 0 = 0) : l.set i 0 = l := by
  apply List.ext_getElem?
  intro j
  by_cases e : i = j
  · subst e
    by_cases hi : i < l.length
    · rw [List.getElem?_set_self hi]
      rw [List.getD_eq_getElem?_getD, List.getElem?_eq_getElem hi] at h
      rw [List.getElem?_eq_getElem hi]
      simpa using h.symm
    · rw [List.getElem?_eq_none (by simpa using hi), List.getElem?_eq_none (by simpa using hi)]
  · rw [List.getElem?_set_ne e]
theorem getD_set_ne {l : List Nat} {i j v : Nat} (h : i ≠ j) : (l.set i v).getD j 0 = l.getD j 0 := by
  rw [List.getD_eq_getElem?_getD, List.getElem?_set_ne h, ← List.getD_eq_getElem?_getD]
theorem getD_set_self {l : List Nat} {i v : Nat} (h : i < l.length) : (l.set i v).getD i 0 = v := by
  rw [List.getD_eq_getElem?_getD, List.getElem?_set_self h] <;> rfl
theorem fillFrom_len (rem : List Nat) : ∀ (l : List Nat) (room : Nat) (tins : List Nat), (fillFrom rem l room tins).length = tins.length
  | [], _, _ => rfl
  | i :: r, room, tins => by
    unfold fillFrom
    rw [fillFrom_len rem r]
    simp
theorem fillFrom_ne (rem : List Nat) : ∀ (l : List Nat) (room : Nat) (tins : List Nat) (j : Nat), j ∉ l → (fillFrom rem l room tins).getD j 0 = tins.getD j 0
  | [], _, _, _, _ => rfl
  | i :: r, room, tins, j, h => by
    unfold fillFrom
    rw [fillFrom_ne rem r _ _ j (fun z => h (List.mem_cons_of_mem _ z))]
    exact getD_set_ne fun e => h (by rw [e]; exact List.mem_cons_self ..)
theorem fillFrom_le (rem : List Nat) : ∀ (l : List Nat) (room : Nat) (tins : List Nat), (∀ j, tins.getD j 0 ≤ rem.getD j 0) → ∀ j, (fillFrom rem l room tins).getD j 0 ≤ rem.getD j 0
  | [], _, _, h, j => h j
  | i :: r, room, tins, h, j => by
    unfold fillFrom
    refine fillFrom_le rem r _ _ (fun k => ?_) j
    by_cases e : i = k
    · subst e
      by_cases hi : i < tins.length
      · rw [getD_set_self hi]
        exact Nat.min_le_right ..
      · have : (tins.set i (min room (rem.getD i 0))).getD i 0 = tins.getD i 0 := by
          rw [List.set_eq_of_length_le (by omega)]
        rw [this]
        exact h i
    · rw [getD_set_ne e]
      exact h k
theorem fold_fill (o : Oven) (rem : List Nat) (T : Nat) : ∀ (is : List Nat) (room : Nat) (tins : List Nat), is.Nodup → (∀ i ∈ is, tins.getD i 0 = 0) →
    (is.foldl (turn o rem T) (room, tins)).2 = fillFrom rem (is.filter (isCand o rem T)) room tins
  | [], _, _, _, _ => rfl
  | i :: r, room, tins, nd, hz => by
    obtain ⟨n1, n2⟩ := List.nodup_cons.mp nd
    have hz' : ∀ v : Nat, ∀ j ∈ r, (tins.set i v).getD j 0 = 0 := fun v j hj => by
      rw [getD_set_ne (fun e => n1 (by rw [e]; exact hj))]
      exact hz j (List.mem_cons_of_mem _ hj)
    rw [List.foldl_cons]
    by_cases hb : isBaked o T i = true
    · have ht : turn o rem T (room, tins) i = (room - min (rem.getD i 0) room, tins.set i (min (rem.getD i 0) room)) := if_pos hb
      rw [ht]
      by_cases hr : 0 < rem.getD i 0
      · have hc : isCand o rem T i = true := by
          unfold isCand
          unfold isBaked at hb
          rw [hb, decide_eq_true hr] <;> rfl
        rw [List.filter_cons_of_pos hc]
        show _ = fillFrom rem (r.filter (isCand o rem T)) (room - min room (rem.getD i 0)) (tins.set i (min room (rem.getD i 0)))
        rw [Nat.min_comm (rem.getD i 0) room]
        exact fold_fill o rem T r _ _ n2 (hz' _)
      · have hc : ¬ isCand o rem T i = true := by
          unfold isCand
          rw [decide_eq_false hr]
          simp
        rw [List.filter_cons_of_neg hc]
        have e0 : min (rem.getD i 0) room = 0 := by omega
        rw [e0, set_same (hz i (List.mem_cons_self ..))]
        exact fold_fill o rem T r _ _ n2 fun j hj => hz j (List.mem_cons_of_mem _ hj)
    · have ht : turn o rem T (room, tins) i = (room, tins) := if_neg hb
      have hc : ¬ isCand o rem T i = true := by
        unfold isCand
        unfold isBaked at hb
        intro h
        exact hb (Bool.and_eq_true_iff.mp h).2
      rw [ht, List.filter_cons_of_neg hc]
      exact fold_fill o rem T r _ _ n2 fun j hj => hz j (List.mem_cons_of_mem _ hj)
theorem zeros_getD (n j : Nat) : (List.replicate n 0).getD j 0 = 0 := by
  rw [List.getD_eq_getElem?_getD, List.getElem?_replicate]
  split <;> rfl
theorem fill_def (o : Oven) (rem : List Nat) (T : Nat) : fill o rem T = fillFrom rem (candidates o rem T) o.capacity (List.replicate o.products.length 0) := by
  unfold fill
  rw [List.map_const']
/-- what the program pours is the specification's batch -/
theorem poured_fill {o : Oven} {is : List Nat} (hp : is.Perm (List.range o.products.length)) (hs : is.Pairwise (Bef o)) (rem : List Nat) (T : Nat) : (poured o rem T is).2 = fill o rem T := by
  unfold poured
  rw [fold_fill o rem T is _ _ (hp.nodup_iff.mpr List.nodup_range) fun i _ => zeros_getD _ _, cand_filter hp hs, fill_def]
theorem fill_len (o : Oven) (rem : List Nat) (T : Nat) : (fill o rem T).length = o.products.length := by
  rw [fill_def, fillFrom_len, List.length_replicate]
theorem fill_le (o : Oven) (rem : List Nat) (T j : Nat) : (fill o rem T).getD j 0 ≤ rem.getD j 0 := by
  rw [fill_def]
  exact fillFrom_le rem _ _ _ (fun j => by rw [zeros_getD]; exact Nat.zero_le _) j
theorem fill_some {o : Oven} {rem : List Nat} {T i : Nat} (hc : 1 ≤ o.capacity) (hi : i < o.products.length) (h : isCand o rem T i = true) : ∃ j, 0 < (fill o rem T).getD j 0 := by
  obtain ⟨a, b⟩ := cand_all o rem T
  have hm : i ∈ candidates o rem T := b.mem_iff.mpr (List.mem_filter.mpr ⟨List.mem_range.mpr hi, h⟩)
  have nd : (candidates o rem T).Nodup := b.nodup_iff.mpr (List.nodup_range.filter _)
  have al : ∀ j ∈ candidates o rem T, j < o.products.length ∧ 0 < rem.getD j 0 := fun j hj => by
    obtain ⟨h1, h2⟩ := List.mem_filter.mp (b.mem_iff.mp hj)
    refine ⟨List.mem_range.mp h1, ?_⟩
    unfold isCand at h2
    exact of_decide_eq_true (Bool.and_eq_true_iff.mp h2).1
  rw [fill_def]
  generalize candidates o rem T = l at hm nd al
  cases l with
  | nil => simp at hm
  | cons j r =>
    refine ⟨j, ?_⟩
    obtain ⟨h1, h2⟩ := al j (List.mem_cons_self ..)
    unfold fillFrom
    rw [fillFrom_ne rem r _ _ j (List.nodup_cons.mp nd).1, getD_set_self (by rw [List.length_replicate]; exact h1)]
    omega

/-! ### subtract -/
theorem sub_len {a b : List Nat} (h : a.length = b.length) : (subtract a b).length = a.length := by
  unfold subtract
  rw [List.length_map, List.length_zip]
  omega
theorem sub_cons (x y : Nat) (a b : List Nat) : subtract (x :: a) (y :: b) = (x - y) :: subtract a b := rfl
theorem sub_sum : ∀ {a b : List Nat}, a.length = b.length → (∀ j, b.getD j 0 ≤ a.getD j 0) → SrCommon.sum (subtract a b) + SrCommon.sum b = SrCommon.sum a
  | [], [], _, _ => rfl
  | [], _ :: _, h, _ => absurd h (by simp)
  | _ :: _, [], h, _ => absurd h (by simp)
  | x :: a, y :: b, h, hl => by
    have h0 : y ≤ x := by simpa using hl 0
    have ih := sub_sum (a := a) (b := b) (by simpa using h) fun j => by simpa using hl (j + 1)
    rw [sub_cons, sum_cons, sum_cons, sum_cons]
    omega
theorem sub_getD {a b : List Nat} (h : a.length = b.length) (j : Nat) : (subtract a b).getD j 0 = a.getD j 0 - b.getD j 0 := by
  unfold subtract
  rw [List.getD_eq_getElem?_getD, List.getElem?_map, List.getD_eq_getElem?_getD, List.getD_eq_getElem?_getD]
  by_cases hj : j < a.length
  · have hj' : j < b.length := by omega
    rw [List.getElem?_eq_getElem (by rw [List.length_zip]; omega), List.getElem?_eq_getElem hj, List.getElem?_eq_getElem hj']
    simp
  · rw [List.getElem?_eq_none (by rw [List.length_zip]; omega), List.getElem?_eq_none (by omega), List.getElem?_eq_none (by omega)]
    rfl

/-! ### the most urgent one -/
theorem urgent_some (o : Oven) : ∀ (l : List Nat) (b : Nat), ∃ i, l.foldl (fun (best : Option Nat) i => match best with
    | none => some i
    | some j => if (productAt o i).maxTemperature < (productAt o j).maxTemperature then some i else some j) (some b) = some i ∧ i ∈ b :: l ∧ ∀ j ∈ b :: l, (productAt o i).maxTemperature ≤ (productAt o j).maxTemperature
  | [], b => ⟨b, rfl, List.mem_cons_self .., fun j hj => by
    have e : j = b := by simpa using hj
    rw [e]
    exact Nat.le_refl _⟩
  | x :: r, b => by
    rw [List.foldl_cons]
    by_cases c : (productAt o x).maxTemperature < (productAt o b).maxTemperature
    · obtain ⟨i, h1, h2, h3⟩ := urgent_some o r x
      refine ⟨i, ?_, List.mem_cons_of_mem _ h2, fun j hj => ?_⟩
      · show List.foldl _ (if (productAt o x).maxTemperature < (productAt o b).maxTemperature then some x else some b) r = some i
        rw [if_pos c]
        exact h1
      · rcases List.mem_cons.mp hj with e | e
        · rw [e]
          exact Nat.le_trans (h3 x (List.mem_cons_self ..)) (Nat.le_of_lt c)
        · exact h3 j e
    · obtain ⟨i, h1, h2, h3⟩ := urgent_some o r b
      refine ⟨i, ?_, ?_, fun j hj => ?_⟩
      · show List.foldl _ (if (productAt o x).maxTemperature < (productAt o b).maxTemperature then some x else some b) r = some i
        rw [if_neg c]
        exact h1
      · rcases List.mem_cons.mp h2 with e | e
        · rw [e]; exact List.mem_cons_self ..
        · exact List.mem_cons_of_mem _ (List.mem_cons_of_mem _ e)
      · rcases List.mem_cons.mp hj with e | e
        · rw [e]; exact h3 b (List.mem_cons_self ..)
        · rcases List.mem_cons.mp e with e | e
          · rw [e]
            have := h3 b (List.mem_cons_self ..)
            omega
          · exact h3 j (List.mem_cons_of_mem _ e)
theorem urgent_is {o : Oven} {rem : List Nat} (h : ∃ i, i < o.products.length ∧ 0 < rem.getD i 0) : ∃ i, mostUrgent o rem = some i ∧ i < o.products.length ∧ 0 < rem.getD i 0 ∧
    ∀ j, j < o.products.length → 0 < rem.getD j 0 → (productAt o i).maxTemperature ≤ (productAt o j).maxTemperature := by
  have hm : ∀ j, j ∈ (List.range o.products.length).filter (fun i => decide (0 < rem.getD i 0)) ↔ j < o.products.length ∧ 0 < rem.getD j 0 := fun j => by
    rw [List.mem_filter, List.mem_range, decide_eq_true_eq]
  show ∃ i, List.foldl _ none ((List.range o.products.length).filter (fun i => decide (0 < rem.getD i 0))) = some i ∧ _
  generalize (List.range o.products.length).filter (fun i => decide (0 < rem.getD i 0)) = l at hm
  cases l with
  | nil =>
    obtain ⟨i, hi⟩ := h
    have := (hm i).mpr hi
    simp at this
  | cons x r =>
    obtain ⟨i, h1, h2, h3⟩ := urgent_some o r x
    exact ⟨i, h1, ((hm i).mp h2).1, ((hm i).mp h2).2, fun j a b => h3 j ((hm j).mpr ⟨a, b⟩)⟩
theorem urgent_none {o : Oven} {rem : List Nat} (h : ∀ i, rem.getD i 0 = 0) : mostUrgent o rem = none := by
  show List.foldl _ none ((List.range o.products.length).filter (fun i => decide (0 < rem.getD i 0))) = none
  have e : (List.range o.products.length).filter (fun i => decide (0 < rem.getD i 0)) = [] := List.filter_eq_nil_iff.mpr fun i _ => by
    rw [h i]
    simp
  rw [e]
  rfl

/-! ### the state -/
structure Wf (o : Oven) : Prop where
  cap1 : 1 ≤ o.capacity
  cap20 : o.capacity ≤ 20
  few : o.products.length ≤ 6
  each : ∀ p ∈ o.products, p.minTemperature ≤ p.maxTemperature ∧ p.maxTemperature ≤ 400 ∧ p.tins ≤ 9
theorem at_mem {o : Oven} {i : Nat} (h : i < o.products.length) : productAt o i ∈ o.products := by
  unfold productAt
  rw [List.getD_eq_getElem?_getD, List.getElem?_eq_getElem h]
  exact List.getElem_mem ..
theorem at_get {o : Oven} {i : Nat} (h : i < o.products.length) : o.products[i]? = some (productAt o i) := by
  unfold productAt
  rw [List.getD_eq_getElem?_getD, List.getElem?_eq_getElem h] <;> rfl

/-! ### the planned batches -/
theorem from_nil (o : Oven) {rem : List Nat} (h : SrCommon.sum rem = 0) : ∀ fuel, batchesFrom o fuel rem = []
  | 0 => rfl
  | fuel + 1 => by
    have hz : ∀ i, rem.getD i 0 = 0 := fun i => by
      have := mt (fun e => (sum_pos_iff rem).mpr ⟨i, e⟩)
      omega
    unfold batchesFrom
    rw [urgent_none hz]
/-- one turn of the program's loop -/
theorem from_step {o : Oven} (w : Wf o) {rem : List Nat} (hl : rem.length = o.products.length) (hs : 0 < SrCommon.sum rem) {fuel : Nat} (hf : SrCommon.sum rem ≤ fuel) :
    ∃ i fuel', i < o.products.length ∧ 0 < rem.getD i 0 ∧ (∀ j, j < o.products.length → 0 < rem.getD j 0 → (productAt o i).maxTemperature ≤ (productAt o j).maxTemperature) ∧
      batchesFrom o fuel rem = ⟨(productAt o i).maxTemperature, fill o rem (productAt o i).maxTemperature⟩ :: batchesFrom o fuel' (subtract rem (fill o rem (productAt o i).maxTemperature)) ∧
      SrCommon.sum (subtract rem (fill o rem (productAt o i).maxTemperature)) ≤ fuel' ∧ SrCommon.sum (subtract rem (fill o rem (productAt o i).maxTemperature)) < SrCommon.sum rem := by
  have hex : ∃ i, i < o.products.length ∧ 0 < rem.getD i 0 := by
    obtain ⟨i, hi⟩ := (sum_pos_iff rem).mp hs
    refine ⟨i, ?_, hi⟩
    by_cases h : i < rem.length
    · omega
    · rw [List.getD_eq_getElem?_getD, List.getElem?_eq_none (by omega)] at hi
      simp at hi
  obtain ⟨i, h1, h2, h3, h4⟩ := urgent_is hex
  have hm := w.each _ (at_mem h2)
  have hc : isCand o rem (productAt o i).maxTemperature i = true := by
    unfold isCand
    rw [decide_eq_true h3, decide_eq_true hm.1, decide_eq_true (Nat.le_refl _)] <;> rfl
  obtain ⟨j, hj⟩ := fill_some w.cap1 h2 hc
  have hp : 0 < SrCommon.sum (fill o rem (productAt o i).maxTemperature) := (sum_pos_iff _).mpr ⟨j, hj⟩
  have hq := sub_sum (a := rem) (b := fill o rem (productAt o i).maxTemperature) (by rw [fill_len, hl]) fun j => fill_le o rem _ j
  cases fuel with
  | zero => omega
  | succ fuel =>
    refine ⟨i, fuel, h2, h3, h4, ?_, by omega, by omega⟩
    conv => lhs; unfold batchesFrom
    rw [h1]
theorem from_len (o : Oven) : ∀ (fuel : Nat) (rem : List Nat), (batchesFrom o fuel rem).length ≤ fuel
  | 0, _ => Nat.le_refl _
  | fuel + 1, rem => by
    unfold batchesFrom
    split
    · exact Nat.zero_le _
    · show (batchesFrom o fuel _).length + 1 ≤ fuel + 1
      have := from_len o fuel (subtract rem (fill o rem (productAt o ‹Nat›).maxTemperature))
      omega
theorem from_tins (o : Oven) : ∀ (fuel : Nat) (rem : List Nat), ∀ b ∈ batchesFrom o fuel rem, b.tins.length = o.products.length
  | 0, _, b, h => by
    unfold batchesFrom at h
    exact absurd h (by simp)
  | fuel + 1, rem, b, h => by
    unfold batchesFrom at h
    split at h
    · exact absurd h (by simp)
    · rcases List.mem_cons.mp h with e | e
      · rw [e]
        exact fill_len ..
      · exact from_tins o fuel _ b e
theorem tins_len (o : Oven) : (allTins o).length = o.products.length := List.length_map ..
theorem tins_at {o : Oven} {i : Nat} (h : i < o.products.length) : (allTins o).getD i 0 = (productAt o i).tins := by
  unfold allTins
  rw [List.getD_eq_getElem?_getD, List.getElem?_map, at_get h] <;> rfl
end Ovb
namespace Ovb
open Sr99
/-! ### the state stays in its bounds -/
theorem wf_new {c : Int} (h : Sr99.isCapacity c = true) : Wf ⟨[], c.toNat⟩ := by
  have h' : (decide (1 ≤ c) && decide (c ≤ 20)) = true := h
  simp at h'
  exact ⟨by show 1 ≤ c.toNat; omega, by show c.toNat ≤ 20; omega, Nat.zero_le _, fun p hp => absurd hp (by simp)⟩
theorem wf_perform {o : Oven} (w : Wf o) (c : Call) : Wf ((perform o c).1.getD o) := by
  cases c with
  | addProduct lo hi t =>
    show Wf ((if isRange lo hi = false ∨ isTinCount t = false then error SrCommon.invalidArgument
      else if maxProducts ≤ o.products.length then error SrCommon.capacityReached
      else (some { o with products := o.products ++ [⟨lo.toNat, hi.toNat, t.toNat⟩] }, countResult o.products.length)).1.getD o)
    split
    · exact w
    · rename_i h
      split
      · exact w
      · rename_i h2
        have hr : (decide (0 ≤ lo) && (decide (lo ≤ hi) && decide (hi ≤ 400))) = true := by
          cases e : isRange lo hi with
          | true => exact e
          | false => exact absurd (.inl e) h
        have ht : (decide (0 ≤ t) && decide (t ≤ 9)) = true := by
          cases e : isTinCount t with
          | true => exact e
          | false => exact absurd (.inr e) h
        simp at hr ht
        have h3 : ¬ 6 ≤ o.products.length := h2
        refine ⟨w.cap1, w.cap20, ?_, fun p hp => ?_⟩
        · show (o.products ++ [_]).length ≤ 6
          rw [List.length_append, List.length_singleton]
          omega
        · rcases List.mem_append.mp hp with z | z
          · exact w.each p z
          · rw [List.mem_singleton.mp z]
            show lo.toNat ≤ hi.toNat ∧ hi.toNat ≤ 400 ∧ t.toNat ≤ 9
            omega
  | setTins i t =>
    show Wf ((if isProduct o i = false then error SrCommon.notFound
      else if isTinCount t = false then error SrCommon.invalidArgument
      else (some (withProduct o i.toNat { productAt o i.toNat with tins := t.toNat }), countResult (productAt o i.toNat).tins)).1.getD o)
    split
    · exact w
    · rename_i h
      split
      · exact w
      · rename_i h2
        have hp : (decide (0 ≤ i) && decide (i < (o.products.length : Int))) = true := by
          cases e : isProduct o i with
          | true => exact e
          | false => exact absurd e h
        have ht : (decide (0 ≤ t) && decide (t ≤ 9)) = true := by
          cases e : isTinCount t with
          | true => exact e
          | false => exact absurd e h2
        simp at hp ht
        refine ⟨w.cap1, w.cap20, ?_, fun p hm => ?_⟩
        · show (o.products.set _ _).length ≤ 6
          rw [List.length_set]
          exact w.few
        · rcases List.mem_or_eq_of_mem_set hm with z | z
          · exact w.each p z
          · have := w.each _ (at_mem (o := o) (i := i.toNat) (by omega))
            rw [z]
            show (productAt o i.toNat).minTemperature ≤ (productAt o i.toNat).maxTemperature ∧ (productAt o i.toNat).maxTemperature ≤ 400 ∧ t.toNat ≤ 9
            omega
  | setTemperatures i lo hi =>
    show Wf ((if isProduct o i = false then error SrCommon.notFound
      else if isRange lo hi = false then error SrCommon.invalidArgument
      else (some (withProduct o i.toNat { productAt o i.toNat with minTemperature := lo.toNat, maxTemperature := hi.toNat }), (⟨0, [((productAt o i.toNat).minTemperature : Int), ((productAt o i.toNat).maxTemperature : Int)]⟩ : SrCommon.Result))).1.getD o)
    split
    · exact w
    · rename_i h
      split
      · exact w
      · rename_i h2
        have hp : (decide (0 ≤ i) && decide (i < (o.products.length : Int))) = true := by
          cases e : isProduct o i with
          | true => exact e
          | false => exact absurd e h
        have hr : (decide (0 ≤ lo) && (decide (lo ≤ hi) && decide (hi ≤ 400))) = true := by
          cases e : isRange lo hi with
          | true => exact e
          | false => exact absurd e h2
        simp at hp hr
        refine ⟨w.cap1, w.cap20, ?_, fun p hm => ?_⟩
        · show (o.products.set _ _).length ≤ 6
          rw [List.length_set]
          exact w.few
        · rcases List.mem_or_eq_of_mem_set hm with z | z
          · exact w.each p z
          · have := w.each _ (at_mem (o := o) (i := i.toNat) (by omega))
            rw [z]
            show lo.toNat ≤ hi.toNat ∧ hi.toNat ≤ 400 ∧ (productAt o i.toNat).tins ≤ 9
            omega
  | removeProduct i =>
    show Wf ((if isProduct o i = false then error SrCommon.notFound
      else (some { o with products := o.products.eraseIdx i.toNat }, countResult (o.products.length - 1))).1.getD o)
    split
    · exact w
    · refine ⟨w.cap1, w.cap20, ?_, fun p hm => w.each p (List.mem_of_mem_eraseIdx hm)⟩
      have := w.few
      have h2 : (o.products.eraseIdx i.toNat).length ≤ o.products.length := List.length_eraseIdx_le ..
      show (o.products.eraseIdx i.toNat).length ≤ 6
      omega
  | setCapacity c =>
    show Wf ((if isCapacity c = false then error SrCommon.invalidArgument
      else (some { o with capacity := c.toNat }, countResult o.capacity)).1.getD o)
    split
    · exact w
    · rename_i h
      have hc : (decide (1 ≤ c) && decide (c ≤ 20)) = true := by
        cases e : isCapacity c with
        | true => exact e
        | false => exact absurd e h
      simp at hc
      exact ⟨by show 1 ≤ c.toNat; omega, by show c.toNat ≤ 20; omega, w.few, w.each⟩
  | _ => exact w
/-- what a request's state may be -/
def WfS (s : State) : Prop := ∀ o, s = some o → Wf o
theorem step_none {c : Call} (h : ∀ k, c ≠ .create k) : step none c = (none, .ofCode (-11)) := by
  cases c <;> first | exact absurd rfl (h _) | rfl
theorem step_some {o : Oven} {c : Call} (h : ∀ k, c ≠ .create k) : step (some o) c = (some ((perform o c).1.getD o), (perform o c).2) := by
  have go : ∀ q : Option Oven × SrCommon.Result, (match q with
    | (some changed, result) => ((some changed : State), result)
    | (none, result) => (some o, result)) = (some (q.1.getD o), q.2) := fun q => by
    obtain ⟨q1, q2⟩ := q
    cases q1 <;> rfl
  cases c <;> first | exact absurd rfl (h _) | exact go _ | rfl
theorem step_create (s : State) (k : Int) : step s (.create k) = if isCapacity k = false then (s, .ofCode (-22)) else (some ⟨[], k.toNat⟩, .ofCode 0) := by
  cases s <;> rfl
theorem wfS_step {s : State} (w : WfS s) (c : Call) : WfS (step s c).1 := by
  by_cases hc : ∃ k, c = .create k
  · obtain ⟨k, rfl⟩ := hc
    rw [step_create]
    split
    · exact w
    · rename_i h
      intro o e
      have e' : (some ⟨[], k.toNat⟩ : State) = some o := e
      cases e'
      refine wf_new ?_
      cases e : isCapacity k with
      | true => rfl
      | false => exact absurd e h
  · have hn : ∀ k, c ≠ .create k := fun k z => hc ⟨k, z⟩
    cases s with
    | none =>
      rw [step_none hn]
      exact fun o e => absurd e (by simp)
    | some o =>
      rw [step_some hn]
      intro o' e
      have e' : (some ((perform o c).1.getD o) : State) = some o' := e
      cases e'
      exact wf_perform (w o rfl) c
/-! ### the total change -/
theorem change_nil (s : Nat) : totalChange s [] = 0 := rfl
theorem change_cons (s x : Nat) (r : List Nat) : totalChange s (x :: r) = difference x s + totalChange x r := by
  have go : ∀ (l : List Nat) (a s : Nat), (l.foldl (fun (acc : Nat × Nat) t => (acc.1 + difference t acc.2, t)) (a, s)).1 = a + (l.foldl (fun (acc : Nat × Nat) t => (acc.1 + difference t acc.2, t)) (0, s)).1 := by
    intro l
    induction l with
    | nil => intro a s; rfl
    | cons y r ih =>
      intro a s
      rw [List.foldl_cons, List.foldl_cons, ih (a + difference y s) y, ih (0 + difference y s) y]
      omega
  unfold totalChange
  rw [List.foldl_cons, go r (0 + difference x s) x]
  omega
theorem diff_eq (a b : Nat) : ((difference a b : Nat) : Int) = if (a : Int) < (b : Int) then (b : Int) - (a : Int) else (a : Int) - (b : Int) := by
  unfold difference
  split <;> omega
theorem diff_comm (a b : Nat) : difference a b = difference b a := by
  unfold difference
  omega
/-- behind one item more -/
theorem change_snoc : ∀ (l : List Nat) (s x : Nat), totalChange s (l ++ [x]) = totalChange s l + difference x (l.getLast?.getD s)
  | [], s, x => by
    rw [List.nil_append, change_cons, change_nil]
    show difference x s + 0 = 0 + difference x s
    omega
  | y :: r, s, x => by
    rw [List.cons_append, change_cons, change_cons, change_snoc r y x]
    have e : (y :: r).getLast?.getD s = r.getLast?.getD y := by
      cases r with
      | nil => rfl
      | cons z r => simp [List.getLast?_cons_cons]; cases h : (z :: r).getLast? with
        | none => simp at h
        | some v => rfl
    rw [e]
    omega
/-- up a rising list -/
theorem change_up : ∀ (l : List Nat) (s x : Nat), (x :: l).Pairwise (· ≤ ·) → totalChange s (x :: l) = difference x s + (((x :: l).getLast?.getD 0) - x)
  | [], s, x, _ => by
    rw [change_cons, change_nil]
    show _ + 0 = _ + (x - x)
    omega
  | y :: r, s, x, h => by
    obtain ⟨h1, h2⟩ := List.pairwise_cons.mp h
    rw [change_cons, change_up r x y h2]
    have e : (x :: y :: r).getLast?.getD 0 = (y :: r).getLast?.getD 0 := by rw [List.getLast?_cons_cons]
    rw [e]
    have hy : x ≤ y := h1 y (List.mem_cons_self ..)
    have hl : y ≤ (y :: r).getLast?.getD 0 := by
      have hne : (y :: r) ≠ [] := by simp
      rw [List.getLast?_eq_some_getLast hne]
      show y ≤ (y :: r).getLast hne
      rcases List.mem_cons.mp (List.getLast_mem hne) with z | z
      · rw [z]; exact Nat.le_refl _
      · exact (List.pairwise_cons.mp h2).1 _ z
    unfold difference
    omega
/-- down a falling list -/
theorem change_down : ∀ (l : List Nat) (s x : Nat), (x :: l).Pairwise (· ≥ ·) → totalChange s (x :: l) = difference x s + (x - ((x :: l).getLast?.getD 0))
  | [], s, x, _ => by
    rw [change_cons, change_nil]
    show _ + 0 = _ + (x - x)
    omega
  | y :: r, s, x, h => by
    obtain ⟨h1, h2⟩ := List.pairwise_cons.mp h
    rw [change_cons, change_down r x y h2]
    have e : (x :: y :: r).getLast?.getD 0 = (y :: r).getLast?.getD 0 := by rw [List.getLast?_cons_cons]
    rw [e]
    have hy : x ≥ y := h1 y (List.mem_cons_self ..)
    have hl : y ≥ (y :: r).getLast?.getD 0 := by
      have hne : (y :: r) ≠ [] := by simp
      rw [List.getLast?_eq_some_getLast hne]
      show y ≥ (y :: r).getLast hne
      rcases List.mem_cons.mp (List.getLast_mem hne) with z | z
      · rw [z]; exact Nat.le_refl _
      · exact (List.pairwise_cons.mp h2).1 _ z
    unfold difference
    omega
/-! ### the sorted temperatures -/
def insN (x : Nat) : List Nat → List Nat
  | [] => [x]
  | y :: r => if x < y then x :: y :: r else y :: insN x r
def sortN (l : List Nat) : List Nat := l.foldl (fun s x => insN x s) []
theorem insN_perm (x : Nat) : ∀ l : List Nat, (insN x l).Perm (x :: l)
  | [] => List.Perm.refl _
  | y :: r => by
    unfold insN
    split
    · exact List.Perm.refl _
    · exact ((insN_perm x r).cons y).trans (List.Perm.swap x y r)
theorem insN_up (x : Nat) : ∀ l : List Nat, l.Pairwise (· ≤ ·) → (insN x l).Pairwise (· ≤ ·)
  | [], _ => List.pairwise_singleton _ _
  | y :: r, h => by
    obtain ⟨h1, h2⟩ := List.pairwise_cons.mp h
    unfold insN
    split
    · refine List.pairwise_cons.mpr ⟨fun z hz => ?_, h⟩
      rcases List.mem_cons.mp hz with e | e
      · omega
      · have := h1 z e
        omega
    · refine List.pairwise_cons.mpr ⟨fun z hz => ?_, insN_up x r h2⟩
      rcases List.mem_cons.mp ((insN_perm x r).mem_iff.mp hz) with e | e
      · omega
      · exact h1 z e
theorem sortN_all (l : List Nat) : (sortN l).Pairwise (· ≤ ·) ∧ (sortN l).Perm l := by
  have go : ∀ (l acc : List Nat), acc.Pairwise (· ≤ ·) → (l.foldl (fun s x => insN x s) acc).Pairwise (· ≤ ·) ∧ (l.foldl (fun s x => insN x s) acc).Perm (acc ++ l) := by
    intro l
    induction l with
    | nil => exact fun acc h => ⟨h, by simp⟩
    | cons x r ih =>
      intro acc h
      obtain ⟨a, b⟩ := ih (insN x acc) (insN_up x acc h)
      refine ⟨a, b.trans ?_⟩
      refine (List.Perm.append_right r (insN_perm x acc)).trans ?_
      show (x :: (acc ++ r)).Perm (acc ++ x :: r)
      exact List.perm_middle.symm
  have := go l [] List.Pairwise.nil
  simpa [sortN] using this
/-- a rising list is the only one of its members -/
theorem up_uniq : ∀ {l m : List Nat}, l.Pairwise (· ≤ ·) → m.Pairwise (· ≤ ·) → l.Perm m → l = m
  | [], m, _, _, p => (List.Perm.eq_nil p.symm).symm
  | x :: l, [], _, _, p => absurd p.length_eq (by simp)
  | x :: l, y :: m, hl, hm, p => by
    obtain ⟨l1, l2⟩ := List.pairwise_cons.mp hl
    obtain ⟨m1, m2⟩ := List.pairwise_cons.mp hm
    have e : x = y := by
      have h1 : y ≤ x := by
        rcases List.mem_cons.mp (p.mem_iff.mp (List.mem_cons_self (a := x) (l := l))) with e | e
        · omega
        · exact m1 x e
      have h2 : x ≤ y := by
        rcases List.mem_cons.mp (p.mem_iff.mpr (List.mem_cons_self (a := y) (l := m))) with e | e
        · omega
        · exact l1 y e
      omega
    subst e
    rw [up_uniq l2 m2 p.cons_inv]
theorem temps_ins (x : Batch) : ∀ l : List Batch, temperaturesOf (insertByTemperature x l) = insN x.temperature (temperaturesOf l)
  | [] => rfl
  | y :: r => by
    show temperaturesOf (if x.temperature < y.temperature then x :: y :: r else y :: insertByTemperature x r) = if x.temperature < y.temperature then x.temperature :: y.temperature :: temperaturesOf r else y.temperature :: insN x.temperature (temperaturesOf r)
    split
    · rfl
    · show y.temperature :: temperaturesOf (insertByTemperature x r) = _
      rw [temps_ins x r]
theorem temps_sort (l : List Batch) : temperaturesOf (sortBatches l) = sortN (temperaturesOf l) := by
  have go : ∀ (l acc : List Batch), temperaturesOf (l.foldl (fun sorted x => insertByTemperature x sorted) acc) = (temperaturesOf l).foldl (fun s x => insN x s) (temperaturesOf acc) := by
    intro l
    induction l with
    | nil => exact fun _ => rfl
    | cons x r ih =>
      intro acc
      show temperaturesOf (r.foldl _ (insertByTemperature x acc)) = (temperaturesOf r).foldl _ (insN x.temperature (temperaturesOf acc))
      rw [ih, temps_ins]
  exact go l []
/-- the best order's temperatures, by the temperatures alone -/
def bestN (s : Nat) (l : List Nat) : List Nat := if totalChange s (sortN l).reverse < totalChange s (sortN l) then (sortN l).reverse else sortN l
theorem temps_best (s : Nat) (l : List Batch) : temperaturesOf (orderBatches s l) = bestN s (temperaturesOf l) := by
  have hr : temperaturesOf (sortBatches l).reverse = (sortN (temperaturesOf l)).reverse := by
    show ((sortBatches l).reverse).map (fun b => b.temperature) = _
    rw [List.map_reverse]
    show (temperaturesOf (sortBatches l)).reverse = _
    rw [temps_sort]
  unfold orderBatches bestN
  dsimp only
  rw [hr, temps_sort]
  split
  · exact hr
  · exact temps_sort l
theorem minf_spec : ∀ (r : List Nat) (x : Nat), r.foldl min x ∈ x :: r ∧ ∀ y ∈ x :: r, r.foldl min x ≤ y
  | [], x => ⟨List.mem_cons_self .., fun y hy => by
    have e : y = x := by simpa using hy
    rw [e]
    exact Nat.le_refl _⟩
  | z :: r, x => by
    obtain ⟨a, b⟩ := minf_spec r (min x z)
    rw [List.foldl_cons]
    refine ⟨?_, fun y hy => ?_⟩
    · rcases List.mem_cons.mp a with e | e
      · rw [e]
        rcases Nat.le_total x z with h | h
        · rw [Nat.min_eq_left h]; exact List.mem_cons_self ..
        · rw [Nat.min_eq_right h]; exact List.mem_cons_of_mem _ (List.mem_cons_self ..)
      · exact List.mem_cons_of_mem _ (List.mem_cons_of_mem _ e)
    · have h0 := b (min x z) (List.mem_cons_self ..)
      rcases List.mem_cons.mp hy with e | e
      · rw [e]; omega
      · rcases List.mem_cons.mp e with e | e
        · rw [e]; omega
        · exact b y (List.mem_cons_of_mem _ e)
theorem maxf_spec : ∀ (r : List Nat) (x : Nat), r.foldl max x ∈ x :: r ∧ ∀ y ∈ x :: r, y ≤ r.foldl max x
  | [], x => ⟨List.mem_cons_self .., fun y hy => by
    have e : y = x := by simpa using hy
    rw [e]
    exact Nat.le_refl _⟩
  | z :: r, x => by
    obtain ⟨a, b⟩ := maxf_spec r (max x z)
    rw [List.foldl_cons]
    refine ⟨?_, fun y hy => ?_⟩
    · rcases List.mem_cons.mp a with e | e
      · rw [e]
        rcases Nat.le_total x z with h | h
        · rw [Nat.max_eq_right h]; exact List.mem_cons_of_mem _ (List.mem_cons_self ..)
        · rw [Nat.max_eq_left h]; exact List.mem_cons_self ..
      · exact List.mem_cons_of_mem _ (List.mem_cons_of_mem _ e)
    · have h0 := b (max x z) (List.mem_cons_self ..)
      rcases List.mem_cons.mp hy with e | e
      · rw [e]; omega
      · rcases List.mem_cons.mp e with e | e
        · rw [e]; omega
        · exact b y (List.mem_cons_of_mem _ e)
/-- the least and the greatest by hand -/
theorem minChange_by {s lo hi : Nat} {l : List Nat} (h1 : lo ∈ l) (h2 : ∀ y ∈ l, lo ≤ y) (h3 : hi ∈ l) (h4 : ∀ y ∈ l, y ≤ hi) : minChange s l = (hi - lo) + min (difference lo s) (difference hi s) := by
  cases l with
  | nil => simp at h1
  | cons x r =>
    obtain ⟨a, b⟩ := minf_spec r x
    obtain ⟨c, d⟩ := maxf_spec r x
    have e1 : r.foldl min x = lo := Nat.le_antisymm (b lo h1) (h2 _ a)
    have e2 : r.foldl max x = hi := Nat.le_antisymm (h4 _ c) (d hi h3)
    show (r.foldl max x - r.foldl min x) + min (difference (r.foldl min x) s) (difference (r.foldl max x) s) = _
    rw [e1, e2]
theorem up_head {x : Nat} {r : List Nat} (h : (x :: r).Pairwise (· ≤ ·)) : ∀ y ∈ x :: r, x ≤ y := fun y hy => by
  rcases List.mem_cons.mp hy with e | e
  · rw [e]; exact Nat.le_refl _
  · exact (List.pairwise_cons.mp h).1 y e
theorem up_last : ∀ {l : List Nat} (hne : l ≠ []), l.Pairwise (· ≤ ·) → ∀ y ∈ l, y ≤ l.getLast hne
  | [], hne, _, _, _ => absurd rfl hne
  | [x], _, _, y, hy => by
    have e : y = x := by simpa using hy
    rw [e]
    exact Nat.le_refl _
  | x :: z :: r, _, h, y, hy => by
    obtain ⟨h1, h2⟩ := List.pairwise_cons.mp h
    have e : (x :: z :: r).getLast (by simp) = (z :: r).getLast (by simp) := rfl
    rw [e]
    have ih := up_last (l := z :: r) (by simp) h2
    rcases List.mem_cons.mp hy with q | q
    · rw [q]
      exact Nat.le_trans (h1 z (List.mem_cons_self ..)) (ih z (List.mem_cons_self ..))
    · exact ih y q
/-- the smallest change is the smaller one of up and down -/
theorem minChange_two (s : Nat) (l : List Nat) : minChange s l = min (totalChange s (sortN l)) (totalChange s (sortN l).reverse) := by
  obtain ⟨u, p⟩ := sortN_all l
  cases e : sortN l with
  | nil =>
    rw [e] at p
    have : l = [] := List.Perm.eq_nil p.symm
    rw [this]
    rfl
  | cons x r =>
    rw [e] at u p
    have hne : (x :: r) ≠ [] := by simp
    have hl := up_last hne u
    have hh := up_head u
    have hlm : (x :: r).getLast hne ∈ l := p.mem_iff.mp (List.getLast_mem hne)
    have hxm : x ∈ l := p.mem_iff.mp (List.mem_cons_self ..)
    rw [minChange_by hxm (fun y hy => hh y (p.mem_iff.mpr hy)) hlm (fun y hy => hl y (p.mem_iff.mpr hy))]
    have c1 := change_up r s x u
    rw [List.getLast?_eq_some_getLast hne] at c1
    have c1' : totalChange s (x :: r) = difference x s + ((x :: r).getLast hne - x) := c1
    have rv : ((x :: r).reverse).Pairwise (· ≥ ·) := List.pairwise_reverse.mpr u
    obtain ⟨z, t, ez⟩ : ∃ z t, (x :: r).reverse = z :: t := by
      cases h : (x :: r).reverse with
      | nil => simp at h
      | cons z t => exact ⟨z, t, rfl⟩
    have hz : z = (x :: r).getLast hne := by
      have := congrArg List.head? ez
      rw [List.head?_reverse, List.getLast?_eq_some_getLast hne] at this
      exact (Option.some.inj this).symm
    rw [ez] at rv
    have c2 := change_down t s z rv
    rw [← ez, List.getLast?_reverse] at c2
    have c2' : totalChange s ((x :: r).reverse) = difference z s + (z - x) := c2
    rw [c1', c2', hz]
    have := hl x (List.mem_cons_self ..)
    omega
end Ovb
namespace Ovb
open Sr99
/-! ### a call, as the list has it -/
/-- the call that a number and its whole numbers are (every call but check_batches) -/
inductive Fixed : Int → Nat → List Int → Call → Prop
  | c0 (a : Int) : Fixed 0 1 [a] (.create a)
  | c1 (a b c : Int) : Fixed 1 3 [a, b, c] (.addProduct a b c)
  | c2 (a b : Int) : Fixed 2 2 [a, b] (.setTins a b)
  | c3 (a b c : Int) : Fixed 3 3 [a, b, c] (.setTemperatures a b c)
  | c4 (a : Int) : Fixed 4 1 [a] (.removeProduct a)
  | c5 (a : Int) : Fixed 5 1 [a] (.setCapacity a)
  | c6 : Fixed 6 0 [] .minBatches
  | c7 (a : Int) : Fixed 7 1 [a] (.batch a)
  | c8 : Fixed 8 0 [] .temperatures
  | c9 (a : Int) : Fixed 9 1 [a] (.bestOrder a)
  | c10 (a : Int) : Fixed 10 1 [a] (.minChange a)
  | c11 (a b : Int) : Fixed 11 2 [a, b] (.areCompatible a b)
  | c12 (a : Int) : Fixed 12 1 [a] (.fillBatch a)
  | c13 (a b : Int) : Fixed 13 2 [a, b] (.minBatchesIfTins a b)
  | c14 (a : Int) : Fixed 14 1 [a] (.minBatchesIfCapacity a)
  | c16 : Fixed 16 0 [] .describe
theorem asked_form {c : List (List Int)} (h : Sr99Neutral.asked1 c = true) : (∃ p n args call, c = [p :: args] ∧ Fixed p n args call ∧ PySr99.shape p = some (n, 0) ∧ Sr99Neutral.parseCall c = some call) ∨
    (∃ args, c = [[15], args] ∧ args.length ≤ 70 ∧ (∀ x ∈ args, -2147483648 ≤ x ∧ x < 2147483648) ∧ Sr99Neutral.parseCall c = some (.checkBatches args)) := by
  unfold Sr99Neutral.asked1 at h
  split at h
  · exact .inl ⟨_, _, _, _, rfl, .c0 _, rfl, rfl⟩
  · exact .inl ⟨_, _, _, _, rfl, .c1 _ _ _, rfl, rfl⟩
  · exact .inl ⟨_, _, _, _, rfl, .c2 _ _, rfl, rfl⟩
  · exact .inl ⟨_, _, _, _, rfl, .c3 _ _ _, rfl, rfl⟩
  · exact .inl ⟨_, _, _, _, rfl, .c4 _, rfl, rfl⟩
  · exact .inl ⟨_, _, _, _, rfl, .c5 _, rfl, rfl⟩
  · exact .inl ⟨_, _, _, _, rfl, .c6, rfl, rfl⟩
  · exact .inl ⟨_, _, _, _, rfl, .c7 _, rfl, rfl⟩
  · exact .inl ⟨_, _, _, _, rfl, .c8, rfl, rfl⟩
  · exact .inl ⟨_, _, _, _, rfl, .c9 _, rfl, rfl⟩
  · exact .inl ⟨_, _, _, _, rfl, .c10 _, rfl, rfl⟩
  · exact .inl ⟨_, _, _, _, rfl, .c11 _ _, rfl, rfl⟩
  · exact .inl ⟨_, _, _, _, rfl, .c12 _, rfl, rfl⟩
  · exact .inl ⟨_, _, _, _, rfl, .c13 _ _, rfl, rfl⟩
  · exact .inl ⟨_, _, _, _, rfl, .c14 _, rfl, rfl⟩
  · rename_i r
    refine .inr ⟨r, rfl, ?_, fun x hx => ?_, rfl⟩
    · have := (Bool.and_eq_true_iff.mp h).2
      exact of_decide_eq_true this
    · have := List.all_eq_true.mp (Bool.and_eq_true_iff.mp h).1 x hx
      have t : (decide (-2147483648 ≤ x) && decide (x < 2147483648)) = true := this
      simpa using t
  · exact .inl ⟨_, _, _, _, rfl, .c16, rfl, rfl⟩
  · exact absurd h (by simp)
theorem fixed_len {p : Int} {n : Nat} {args : List Int} {c : Call} (h : Fixed p n args c) : args.length = n := by cases h <;> rfl
theorem whole_id (c : List (List Int)) : PySr99.whole c = c := by
  unfold PySr99.whole
  split <;> rfl
theorem whole_ids (cs : List (List (List Int))) : cs.map PySr99.whole = cs := by
  induction cs with
  | nil => rfl
  | cons c r ih => rw [List.map_cons, ih, whole_id]
/-- what is left of the list at a place: from the state on the specification answers what is still due -/
def Rest (l : List Int) (k : Nat) (st : State) (out : List Int) : Prop := ∃ f cs, PyFlat.calls PySr99.shape f (l.drop k) = some cs ∧ (∀ c ∈ cs, Sr99Neutral.asked1 c = true) ∧ out ++ PyFlat.told (PyFlat.played Sr99Neutral.step st cs) = PySr99.answers l
theorem rest_start {l : List Int} (h : PySr99.answers_asked l = true) : Rest l 0 none [] ∧ (PySr99.answers l).length ≤ 10000000 := by
  unfold PySr99.answers_asked at h
  split at h
  · exact absurd h (by simp)
  · rename_i raw hraw
    simp only [Bool.and_eq_true] at h
    obtain ⟨⟨⟨_, _⟩, h2⟩, h3⟩ := h
    rw [whole_ids] at h2
    unfold Sr99Neutral.asked at h2
    simp only [Bool.and_eq_true] at h2
    have ea : PySr99.answers l = PyFlat.told (PyFlat.played Sr99Neutral.step Sr99Neutral.start raw) := by
      unfold PySr99.answers PySr99.calls
      rw [hraw]
      show PyFlat.told (PyFlat.played Sr99Neutral.step Sr99Neutral.start (raw.map PySr99.whole)) = _
      rw [whole_ids]
    refine ⟨⟨l.length, raw, hraw, fun c hc => List.all_eq_true.mp h2.2.2 c hc, ea.symm⟩, ?_⟩
    exact of_decide_eq_true h3
theorem rest_end {l out : List Int} {k : Nat} {st : State} (h : Rest l k st out) (hk : l.length ≤ k) : out = PySr99.answers l := by
  obtain ⟨f, cs, h1, _, h3⟩ := h
  rw [List.drop_eq_nil_of_le hk] at h1
  have e : cs = [] := by
    cases f <;> exact (Option.some.inj h1).symm
  rw [e] at h3
  have h4 : out ++ [] = PySr99.answers l := h3
  rw [List.append_nil] at h4
  exact h4
/-- the numbers that are answered of a call -/
def said (r : SrCommon.Result) : List Int := r.code :: r.values
theorem rest_next {l out : List Int} {k : Nat} {st : State} (h : Rest l k st out) (hk : k < l.length) : ∃ p call args k',
    l[k]? = some p ∧ k < k' ∧ k' ≤ l.length ∧ Rest l k' (step st call).1 (out ++ ((said (step st call).2).length : Int) :: said (step st call).2) ∧
    ((∃ n, Fixed p n args call ∧ k' = k + 1 + n ∧ args = (l.drop (k + 1)).take n) ∨
     (p = 15 ∧ ∃ m : Nat, l[k + 1]? = some (m : Int) ∧ m ≤ 70 ∧ k' = k + 2 + m ∧ args = (l.drop (k + 2)).take m ∧ args.length = m ∧ (∀ x ∈ args, -2147483648 ≤ x ∧ x < 2147483648) ∧ call = .checkBatches args)) := by
  obtain ⟨f, cs, h1, h2, h3⟩ := h
  have ed : l.drop k = l[k] :: l.drop (k + 1) := List.drop_eq_getElem_cons hk
  rw [ed] at h1
  cases f with
  | zero => exact absurd h1 (by simp [PyFlat.calls])
  | succ f =>
    have h1' : (match PyFlat.call PySr99.shape (l[k] :: l.drop (k + 1)) with
      | none => none
      | some (c, t) => match PyFlat.calls PySr99.shape f t with
        | none => none
        | some cs => some (c :: cs)) = some cs := h1
    cases ec : PyFlat.call PySr99.shape (l[k] :: l.drop (k + 1)) with
    | none => rw [ec] at h1'; cases h1'
    | some q =>
      obtain ⟨c, t⟩ := q
      rw [ec] at h1'
      cases er : PyFlat.calls PySr99.shape f t with
      | none =>
        have h1'' : (match PyFlat.calls PySr99.shape f t with
          | none => none
          | some cs => some (c :: cs)) = some cs := h1'
        rw [er] at h1''
        cases h1''
      | some cs' =>
        have h1'' : (match PyFlat.calls PySr99.shape f t with
          | none => none
          | some cs => some (c :: cs)) = some cs := h1'
        rw [er] at h1''
        have ecs : c :: cs' = cs := Option.some.inj h1''
        subst ecs
        have ha := h2 c (List.mem_cons_self ..)
        have hrest : ∀ (call : Call) (k' : Nat), Sr99Neutral.parseCall c = some call → t = l.drop k' → Rest l k' (step st call).1 (out ++ ((said (step st call).2).length : Int) :: said (step st call).2) := fun call k' hp ht => by
          refine ⟨f, cs', by rw [← ht]; exact er, fun d hd => h2 d (List.mem_cons_of_mem _ hd), ?_⟩
          have hs : Sr99Neutral.step st c = ((step st call).1, said (step st call).2) := by
            unfold Sr99Neutral.step
            rw [hp]
            rfl
          rw [← h3]
          show (out ++ _) ++ _ = out ++ PyFlat.told ((Sr99Neutral.step st c).2 :: PyFlat.played Sr99Neutral.step (Sr99Neutral.step st c).1 cs')
          rw [hs, List.append_assoc]
          rfl
        have ec' : (match PySr99.shape l[k] with
          | none => none
          | some (n, m) => if (l.drop (k + 1)).length < n then none else match PyFlat.rows m ((l.drop (k + 1)).drop n) with
            | none => none
            | some (xs, t) => some ((l[k] :: (l.drop (k + 1)).take n) :: xs, t)) = some (c, t) := ec
        rcases asked_form ha with ⟨p, n, args, call, rfl, hF, hsh, hp⟩ | ⟨args, rfl, ha70, hai, hp⟩
        · -- a call of whole numbers alone
          cases es : PySr99.shape l[k] with
          | none => rw [es] at ec'; cases ec'
          | some nm =>
            obtain ⟨n', m'⟩ := nm
            rw [es] at ec'
            have ec2 : (if (l.drop (k + 1)).length < n' then none else match PyFlat.rows m' ((l.drop (k + 1)).drop n') with
              | none => none
              | some (xs, t) => some ((l[k] :: (l.drop (k + 1)).take n') :: xs, t)) = some ([p :: args], t) := ec'
            by_cases hlt : (l.drop (k + 1)).length < n'
            · rw [if_pos hlt] at ec2
              cases ec2
            · rw [if_neg hlt] at ec2
              cases ew : PyFlat.rows m' ((l.drop (k + 1)).drop n') with
              | none => rw [ew] at ec2; cases ec2
              | some xt =>
                obtain ⟨xs, t'⟩ := xt
                rw [ew] at ec2
                have ec3 := Option.some.inj (show some (((l[k] :: (l.drop (k + 1)).take n') :: xs), t') = some ([p :: args], t) from ec2)
                obtain ⟨e1, e2⟩ := Prod.mk.inj ec3
                obtain ⟨e3, e4⟩ := List.cons.inj e1
                obtain ⟨e5, e6⟩ := List.cons.inj e3
                rw [e5] at es
                rw [hsh] at es
                obtain ⟨e7, e8⟩ := Prod.mk.inj (Option.some.inj es)
                subst e7
                subst e8
                have e9 : t' = (l.drop (k + 1)).drop n := by
                  have := Option.some.inj (show some (([] : List (List Int)), (l.drop (k + 1)).drop n) = some (xs, t') from ew)
                  exact (Prod.mk.inj this).2.symm
                rw [List.length_drop] at hlt
                refine ⟨p, call, args, k + 1 + n, by rw [List.getElem?_eq_getElem hk, e5], by omega, by omega, hrest call _ hp (by rw [← e2, e9, List.drop_drop]), .inl ⟨n, hF, rfl, e6.symm⟩⟩
        · -- check_batches
          cases es : PySr99.shape l[k] with
          | none => rw [es] at ec'; cases ec'
          | some nm =>
            obtain ⟨n', m'⟩ := nm
            rw [es] at ec'
            have ec2 : (if (l.drop (k + 1)).length < n' then none else match PyFlat.rows m' ((l.drop (k + 1)).drop n') with
              | none => none
              | some (xs, t) => some ((l[k] :: (l.drop (k + 1)).take n') :: xs, t)) = some ([[15], args], t) := ec'
            by_cases hlt : (l.drop (k + 1)).length < n'
            · rw [if_pos hlt] at ec2
              cases ec2
            · rw [if_neg hlt] at ec2
              cases ew : PyFlat.rows m' ((l.drop (k + 1)).drop n') with
              | none => rw [ew] at ec2; cases ec2
              | some xt =>
                obtain ⟨xs, t'⟩ := xt
                rw [ew] at ec2
                have ec3 := Option.some.inj (show some (((l[k] :: (l.drop (k + 1)).take n') :: xs), t') = some ([[15], args], t) from ec2)
                obtain ⟨e1, e2⟩ := Prod.mk.inj ec3
                obtain ⟨e3, e4⟩ := List.cons.inj e1
                obtain ⟨e5, e6⟩ := List.cons.inj e3
                have h15 : PySr99.shape 15 = some (0, 1) := rfl
                rw [e5, h15] at es
                obtain ⟨e7, e8⟩ := Prod.mk.inj (Option.some.inj es)
                subst e7
                subst e8
                subst e4
                rw [List.drop_zero] at ew
                -- one row: its length, then it
                cases er2 : l.drop (k + 1) with
                | nil => rw [er2] at ew; cases ew
                | cons z r =>
                  rw [er2] at ew
                  have ew2 : (match (if 0 ≤ z ∧ z.toNat ≤ r.length then some (r.take z.toNat, r.drop z.toNat) else none : Option (List Int × List Int)) with
                    | none => none
                    | some (x, s) => some ([x], s)) = some ([args], t') := ew
                  by_cases hz : 0 ≤ z ∧ z.toNat ≤ r.length
                  · rw [if_pos hz] at ew2
                    have ew3 := Option.some.inj (show some ([r.take z.toNat], r.drop z.toNat) = some ([args], t') from ew2)
                    obtain ⟨f1, f2⟩ := Prod.mk.inj ew3
                    have f3 : r.take z.toNat = args := (List.cons.inj f1).1
                    have hk1 : k + 1 < l.length := by
                      have := congrArg List.length er2
                      rw [List.length_drop, List.length_cons] at this
                      omega
                    have hr : r = l.drop (k + 2) := by
                      have := List.drop_eq_getElem_cons hk1
                      rw [er2] at this
                      exact (List.cons.inj this).2
                    have hz1 : l[k + 1]? = some z := by
                      have := List.drop_eq_getElem_cons hk1
                      rw [er2] at this
                      rw [List.getElem?_eq_getElem hk1, (List.cons.inj this).1]
                    have hlen : args.length = z.toNat := by
                      rw [← f3, List.length_take]
                      omega
                    have hrl : r.length = l.length - (k + 2) := by rw [hr, List.length_drop]
                    refine ⟨15, .checkBatches args, args, k + 2 + z.toNat, by rw [List.getElem?_eq_getElem hk, e5], by omega, by omega, hrest _ _ hp (by rw [← e2, ← f2, hr, List.drop_drop]), .inr ⟨rfl, z.toNat, by rw [hz1, Int.toNat_of_nonneg hz.1], by omega, rfl, by rw [← f3, hr], hlen, hai, rfl⟩⟩
                  · rw [if_neg hz] at ew2
                    cases ew2
end Ovb
namespace Ovb
open Sr99
/-! ### check_batches: the groups -/
def chunks (n : Nat) : Nat → List Int → List Batch
  | 0, _ => []
  | _ + 1, [] => []
  | m + 1, t :: rest => ⟨t.toNat, SrCommon.intsToNats (rest.take n)⟩ :: chunks n m (rest.drop n)
theorem decode_good (n : Nat) : ∀ (m : Nat) (l : List Int) (fuel : Nat), l.length = m * (n + 1) → (∀ x ∈ l, 0 ≤ x) → m ≤ fuel → decodeBatches n l fuel = some (chunks n m l)
  | 0, l, fuel, h, _, _ => by
    have e : l = [] := List.eq_nil_of_length_eq_zero (by simpa using h)
    subst e
    cases fuel <;> rfl
  | m + 1, l, fuel, h, hx, hf => by
    have hm : (m + 1) * (n + 1) = m * (n + 1) + (n + 1) := Nat.succ_mul ..
    cases l with
    | nil =>
      rw [List.length_nil] at h
      omega
    | cons t rest =>
      rw [List.length_cons] at h
      cases fuel with
      | zero => omega
      | succ fuel =>
        have c : ¬ (rest.length < n ∨ t < 0 ∨ ((rest.take n).any fun x => decide (x < 0)) = true) := by
          rintro (a | a | a)
          · omega
          · have := hx t (List.mem_cons_self ..)
            omega
          · obtain ⟨x, h1, h2⟩ := List.any_eq_true.mp a
            have := hx x (List.mem_cons_of_mem _ (List.mem_of_mem_take h1))
            have := of_decide_eq_true h2
            omega
        show (if rest.length < n ∨ t < 0 ∨ ((rest.take n).any fun x => decide (x < 0)) = true then none
          else (decodeBatches n (rest.drop n) fuel).map fun l => (⟨t.toNat, SrCommon.intsToNats (rest.take n)⟩ : Batch) :: l) = _
        rw [if_neg c, decode_good n m (rest.drop n) fuel (by rw [List.length_drop]; omega) (fun x h => hx x (List.mem_cons_of_mem _ (List.mem_of_mem_drop h))) (by omega)]
        rfl
theorem decode_bad (n : Nat) : ∀ (fuel : Nat) (l : List Int), l.length ≤ fuel → (l.length % (n + 1) ≠ 0 ∨ ∃ x ∈ l, x < 0) → decodeBatches n l fuel = none
  | _, [], _, h => by
    rcases h with h | ⟨x, h, _⟩
    · exact absurd (Nat.zero_mod _) h
    · exact absurd h (by simp)
  | 0, t :: rest, hf, _ => by simp at hf
  | fuel + 1, t :: rest, hf, h => by
    show (if rest.length < n ∨ t < 0 ∨ ((rest.take n).any fun x => decide (x < 0)) = true then none
      else (decodeBatches n (rest.drop n) fuel).map fun l => (⟨t.toNat, SrCommon.intsToNats (rest.take n)⟩ : Batch) :: l) = none
    by_cases c : rest.length < n ∨ t < 0 ∨ ((rest.take n).any fun x => decide (x < 0)) = true
    · rw [if_pos c]
    · rw [if_neg c]
      rw [List.length_cons] at hf h
      have c1 : ¬ rest.length < n := fun z => c (.inl z)
      have c2 : ¬ t < 0 := fun z => c (.inr (.inl z))
      have c3 : ∀ x ∈ rest.take n, ¬ x < 0 := fun x hx z => c (.inr (.inr (List.any_eq_true.mpr ⟨x, hx, decide_eq_true z⟩)))
      rw [decode_bad n fuel (rest.drop n) (by rw [List.length_drop]; omega) ?_]
      · rfl
      · rcases h with h | ⟨x, hx, hn⟩
        · refine .inl ?_
          rw [List.length_drop]
          intro z
          apply h
          have e : rest.length + 1 = (rest.length - n) + (n + 1) := by omega
          rw [e, Nat.add_mod_right]
          exact z
        · refine .inr ⟨x, ?_, hn⟩
          rcases List.mem_cons.mp hx with e | e
          · rw [e] at hn
            exact absurd hn c2
          · rw [← List.take_append_drop n rest] at e
            rcases List.mem_append.mp e with q | q
            · exact absurd hn (c3 x q)
            · exact q
theorem chunks_len (n : Nat) : ∀ (m : Nat) (l : List Int), l.length = m * (n + 1) → (chunks n m l).length = m
  | 0, _, _ => rfl
  | m + 1, [], h => by
    have hm : (m + 1) * (n + 1) = m * (n + 1) + (n + 1) := Nat.succ_mul ..
    rw [List.length_nil] at h
    omega
  | m + 1, t :: rest, h => by
    have hm : (m + 1) * (n + 1) = m * (n + 1) + (n + 1) := Nat.succ_mul ..
    rw [List.length_cons] at h
    show (chunks n m (rest.drop n)).length + 1 = m + 1
    rw [chunks_len n m _ (by rw [List.length_drop]; omega)]
theorem chunks_at (n : Nat) : ∀ (m : Nat) (l : List Int) (i : Nat), l.length = m * (n + 1) → i < m →
    (chunks n m l)[i]? = some ⟨(l.getD (i * (n + 1)) 0).toNat, SrCommon.intsToNats ((l.drop (i * (n + 1) + 1)).take n)⟩
  | 0, _, _, _, h => absurd h (by omega)
  | m + 1, [], i, h, _ => by
    have hm : (m + 1) * (n + 1) = m * (n + 1) + (n + 1) := Nat.succ_mul ..
    rw [List.length_nil] at h
    omega
  | m + 1, t :: rest, 0, h, _ => by
    show some _ = some _
    rw [Nat.zero_mul]
    rfl
  | m + 1, t :: rest, i + 1, h, hi => by
    have hm : (m + 1) * (n + 1) = m * (n + 1) + (n + 1) := Nat.succ_mul ..
    have hi' : (i + 1) * (n + 1) = i * (n + 1) + n + 1 := by rw [Nat.succ_mul]; omega
    rw [List.length_cons] at h
    have ih := chunks_at n m (rest.drop n) i (by rw [List.length_drop]; omega) (by omega)
    show (chunks n m (rest.drop n))[i]? = _
    rw [ih, hi']
    have e1 : (t :: rest).getD (i * (n + 1) + n + 1) 0 = (rest.drop n).getD (i * (n + 1)) 0 := by
      rw [List.getD_eq_getElem?_getD, List.getD_eq_getElem?_getD, List.getElem?_cons_succ, List.getElem?_drop, Nat.add_comm]
    have e2 : (t :: rest).drop (i * (n + 1) + n + 1 + 1) = (rest.drop n).drop (i * (n + 1) + 1) := by
      rw [List.drop_succ_cons, List.drop_drop]
      congr 1
      omega
    rw [e1, e2]
theorem toNats_len (l : List Int) : (SrCommon.intsToNats l).length = l.length := List.length_map ..
/-- the specification's test, by its parts -/
theorem solution_iff (o : Oven) (l : List Batch) : isSolution o l = true ↔ (∀ b ∈ l, isBatch o b = true) ∧ ∀ i, i < o.products.length → SrCommon.sum (l.map fun b => b.tins.getD i 0) = (productAt o i).tins := by
  unfold isSolution
  rw [Bool.and_eq_true, List.all_eq_true, List.all_eq_true]
  refine and_congr Iff.rfl ⟨fun h i hi => ?_, fun h i hi => ?_⟩
  · exact eq_of_beq (h i (List.mem_range.mpr hi))
  · exact beq_iff_eq.mpr (h i (List.mem_range.mp hi))
theorem batch_iff (o : Oven) (b : Batch) : isBatch o b = true ↔ b.tins.length = o.products.length ∧ SrCommon.sum b.tins ≤ o.capacity ∧ ∀ i, i < o.products.length → b.tins.getD i 0 = 0 ∨ ((productAt o i).minTemperature ≤ b.temperature ∧ b.temperature ≤ (productAt o i).maxTemperature) := by
  unfold isBatch
  rw [Bool.and_eq_true, Bool.and_eq_true, decide_eq_true_eq, decide_eq_true_eq, List.all_eq_true]
  refine and_congr Iff.rfl (and_congr Iff.rfl ⟨fun h i hi => ?_, fun h i hi => ?_⟩)
  · have := h i (List.mem_range.mpr hi)
    rw [Bool.or_eq_true, Bool.and_eq_true, decide_eq_true_eq, decide_eq_true_eq] at this
    exact this.imp (fun z => eq_of_beq z) id
  · rw [Bool.or_eq_true, Bool.and_eq_true, decide_eq_true_eq, decide_eq_true_eq]
    exact (h i (List.mem_range.mp hi)).imp (fun z => beq_iff_eq.mpr z) id
end Ovb
/-! The end of a row of a specification whose program makes lambdas: what is tracked at the entry is the request and the tables of the code objects of the defs that make them. -/
namespace OvE
open PySem PySem.Spec L2 LamX PyProof.Rows
open PySem.W (WData Codec OpenSpec Well WellAll ReadsW ReadsAllW CodeHd)
/-- the tracked heap at the entry: tables at ts, elsewhere H -/
def withT (ts : List Addr) (H : Hp) : Hp := fun b => if b ∈ ts then some (.tbl #[]) else H b
theorem withT_in {ts : List Addr} {H : Hp} {b : Addr} (h : b ∈ ts) : withT ts H b = some (.tbl #[]) := if_pos h
theorem withT_out {ts : List Addr} {H : Hp} {b : Addr} (h : b ∉ ts) : withT ts H b = H b := if_neg h
theorem rd_to {ts : List Addr} {H : Hp} {a : Addr} {u : HO} (hd : ∀ b, H b ≠ none → b ∉ ts) (h : Rd H a u) : Rd (withT ts H) a u := by
  rcases h with h | ⟨o, h⟩
  · exact .inl ((withT_out (hd a (by rw [h]; exact fun z => nomatch z))).trans h)
  · exact .inr ⟨o, (withT_out (hd a (by rw [h]; exact fun z => nomatch z))).trans h⟩
mutual
theorem dw_to {K : PySem.W.Frag} {ts : List Addr} {H : Hp} (hd : ∀ b, H b ≠ none → b ∉ ts) : ∀ (v : V) (d : WData), Dw K H v d → Dw K (withT ts H) v d
  | _, _, .non => .non
  | _, _, .bl b => .bl b
  | _, _, .int i => .int i
  | _, _, .str x => .str x
  | _, _, .byt b => .byt b
  | _, _, .lst hs ha => .lst (hs.imp (rd_to hd) id) (dw_toAll hd _ _ ha)
  | _, _, .tup hs ha => .tup (hs.imp (rd_to hd) id) (dw_toAll hd _ _ ha)
theorem dw_toAll {K : PySem.W.Frag} {ts : List Addr} {H : Hp} (hd : ∀ b, H b ≠ none → b ∉ ts) : ∀ (vs : List V) (ds : List WData), DwAll K H vs ds → DwAll K (withT ts H) vs ds
  | _, _, .nil => .nil
  | _, _, .cons h t => .cons (dw_to hd _ _ h) (dw_toAll hd _ _ t)
end
/-- the tables' facts at the entry's heap -/
structure TabsIn (K : PySem.W.Frag) (h : Heap) (cs : List (Addr × Addr)) : Prop where
  at_ : ∀ p ∈ cs, h.get? p.2 = some { cls := .none, data := .fields #[] }
  nok : ∀ p ∈ cs, K.lookup p.2 = none
  hd : ∀ p ∈ cs, CodeHd h p.1 p.2
/-- the module of the built-ins, as the top names it -/
def BuiltMod (mg : Str → Option Value) (h : Heap) : Prop := ∃ (m : Addr) (x : Obj), mg "__builtins__" = some (.ref m) ∧ m ≠ builtinsNs ∧ h.get? m = some x ∧ x.cls = .type "module" ∧ x.dict = some builtinsNs ∧ x.data = .plain
/-- neither a list's nor a table's object -/
def Other (x : Obj) : Prop := (∀ vs n, x.data ≠ .seq vs n) ∧ x.data ≠ .fields #[]
theorem other_plain {x : Obj} (e : x.data = .plain) : Other x := by
  constructor <;> intros <;> rw [e] <;> exact fun z => nomatch z
theorem other_dict {x : Obj} {es : Array DictEntry} {n : Nat} (e : x.data = .dict es n) : Other x := by
  constructor <;> intros <;> rw [e] <;> exact fun z => nomatch z
theorem name_space {h : Heap} {N : Addr} {m : Str → Option Value} (n : h.Ns N m) : ∃ o es ep, h.get? N = some o ∧ o.data = .dict es ep := by
  obtain ⟨o, es, ep, q, d, -⟩ := n
  exact ⟨o, es, ep, q, d⟩
section
variable {K : PySem.W.Frag} {mg : Str → Option Value} {cs : List (Addr × Addr)}
theorem tb_of {h : Heap} {H : Hp} (T : TabsIn K h cs) (hm : h.Ns mainGlobals mg) (B : BuiltMod mg h) (free : ∀ b o, h.get? b = some o → Other o → H b = none) : ∀ p ∈ cs, TabB (hidT h H) mg p.1 p.2 := fun p hp => by
  have tb := T.at_ p hp
  obtain ⟨mo, mes, mep, mq, md⟩ := name_space hm
  obtain ⟨m, x, b1, b2, b3, b4, b5, b6⟩ := B
  obtain ⟨o, us, file, tf, flags, tg, inF, text, tt, q1, q2, q3, q4, rest⟩ := T.hd p hp
  have oth : Other o := by
    constructor
    · intro vs n z
      rw [q3] at z
      cases z
    · intro z
      rw [q3] at z
      cases z
      simp at q4
  refine ⟨⟨o, us, file, tf, flags, tg, inF, text, tt, hidT_get q1 (free _ _ q1 oth), q2, q3, q4, rest⟩, ⟨m, x, b1, b2, fun z => ?_, fun z => ?_, hidT_get b3 (free _ _ b3 (other_plain b6)), b4, b5, b6⟩, fun z => ?_⟩
  · subst z
    rw [mq] at b3
    cases b3
    rw [md] at b6
    cases b6
  · subst z
    rw [tb] at b3
    cases b3
    cases b6
  · rw [z, tb] at mq
    cases mq
    cases md
end
section
variable {P : Program} {w : World} {K : PySem.W.Frag} {mg mb : Str → Option Value} {lev : Nat} {fa : Addr} {fd : FuncData} {xs0 : List Str} {sp : Sp} {s0 : Shared} {vals : List Value} {ds : List WData} {rec : PySem.W.WRecords} {cl : Str → Option Addr} {ans : WData} {cs : List (Addr × Addr)}
/-- what is known where the def is entered -/
structure Entry (w : World) (K : PySem.W.Frag) (mg mb : Str → Option Value) (s0 : Shared) (cs : List (Addr × Addr)) : Prop where
  kin : K.In s0.heap
  main : s0.heap.Ns mainGlobals mg
  blt : s0.heap.Ns builtinsNs mb
  boot : ∀ x : Str, x ≠ "__name__" → mb x = bootBuiltins x
  lim : s0.heap.NoLimit
  gens : s0.gens = #[]
  bmod : BuiltMod mg s0.heap
  tabs : TabsIn K s0.heap cs
/-- the call of the def that is asked of, with tables -/
theorem spec_tabs (Y : Entry w K mg mb s0 cs) (hwl : WellAll w.params s0.heap vals ds) (hpl : plWs ds = true) (hwt : ∀ d ∈ ds, d.weight ≤ 1048576) (room : Room lev callerA)
    (G : ∀ base : Heap, K.In base → base.Ns mainGlobals mg → (∀ p ∈ cs, TabB base mg p.1 p.2) → FnOk P w K mg base CX0 lev fa fd xs0 sp) (hbind : ∀ (s : Shared) (us : List Value), us.length = xs0.length → BindsTo s fd ⟨us, []⟩ (xs0.zip us)) (hlen : ds.length = xs0.length)
    (hsp : ∀ (H : Hp) (xs : List V), (∀ p ∈ cs, H p.2 = some (.tbl #[])) → DwAll K H xs ds → sp xs H (fun v H' => Dw K H' v ans) fun _ _ _ => False) :
    codeAny (model P w) callerA (.call (.ref fa) ⟨vals, []⟩) (fun r t => ∃ u as, r = .ok (.ret u) ∧ ReadsW rec cl t.heap u ans as ∧ OldK s0.heap t.heap ∧ t.os = s0.os ∧ AllBare t.gens) s0 := by
  obtain ⟨A, only, area⟩ := area_all ds vals hwl hpl hwt
  have T := Y.tabs
  -- of the request: its objects are lists and tuples, none of the written part, none a table
  have kind0 : ∀ b u, argH K s0.heap A b = some u → ∃ o vs n, s0.heap.get? b = some o ∧ o.data = .seq vs n := fun b u q => by
    obtain ⟨-, vs, -, -, ⟨z, -⟩ | ⟨z, -⟩⟩ := argH_is area q <;> exact ⟨_, _, _, z, rfl⟩
  have apart : ∀ b, argH K s0.heap A b ≠ none → b ∉ cs.map (·.2) := fun b hne hm => by
    obtain ⟨p, hp, rfl⟩ := List.mem_map.mp hm
    obtain ⟨u, q⟩ := Option.ne_none_iff_exists'.mp hne
    obtain ⟨o, vs, n, g1, g2⟩ := kind0 _ u q
    rw [T.at_ p hp] at g1
    cases g1
    cases g2
  have which := argH_only (K := K) area
  have ok0 : HOk P w (argH K s0.heap A) s0.heap := argH_ok area
  have args := dw_toAll apart _ _ (dw_all Y.kin area ds vals hwl hpl only)
  have plainV := vals_toV only
  have notK : ∀ b u, argH K s0.heap A b = some u → K.lookup b = none := fun b u q => (argH_is area q).1
  generalize argH K s0.heap A = H0 at apart which ok0 args notK kind0
  have tab : ∀ p ∈ cs, withT (cs.map (·.2)) H0 p.2 = some (.tbl #[]) := fun p hp => withT_in (List.mem_map.mpr ⟨p, hp, rfl⟩)
  have out : ∀ c v, H0 c = some v → withT (cs.map (·.2)) H0 c = some v := fun c v z => (withT_out (apart c (by rw [z]; exact fun y => nomatch y))).trans z
  have free : ∀ b o, s0.heap.get? b = some o → Other o → withT (cs.map (·.2)) H0 b = none := fun b o e ⟨n1, n2⟩ => by
    by_cases hm : b ∈ cs.map (·.2)
    · obtain ⟨p, hp, rfl⟩ := List.mem_map.mp hm
      rw [T.at_ p hp] at e
      cases e
      exact (n2 rfl).elim
    · refine (withT_out hm).trans (Option.eq_none_iff_forall_ne_some.mpr fun u q => ?_)
      obtain ⟨o', vs, n, g1, g2⟩ := kind0 b u q
      rw [e] at g1
      cases g1
      exact n1 vs n g2
  have ok1 : HOk P w (withT (cs.map (·.2)) H0) s0.heap := fun b u q => by
    by_cases hm : b ∈ cs.map (·.2)
    · rw [withT_in hm] at q
      cases q
      obtain ⟨p, hp, rfl⟩ := List.mem_map.mp hm
      exact T.at_ p hp
    · rw [withT_out hm] at q
      exact (ok0 b u q).stay (fun c v _ z => z) (fun c z => out c _ z) fun c xs z => out c _ z
  have spaces : ∀ {b : Addr} {m : Str → Option Value}, s0.heap.Ns b m → (hidT s0.heap (withT (cs.map (·.2)) H0)).Ns b m := fun {b m} ⟨o, es, ep, e, d, r⟩ => ⟨o, es, ep, hidT_get e (free _ _ e (other_dict d)), d, r⟩
  have Kbase : K.In (hidT s0.heap (withT (cs.map (·.2)) H0)) := fun b o e => by
    refine hidT_get (Y.kin b o e) ?_
    by_cases hm : b ∈ cs.map (·.2)
    · obtain ⟨p, hp, rfl⟩ := List.mem_map.mp hm
      rw [T.nok p hp] at e
      cases e
    · refine (withT_out hm).trans (Option.eq_none_iff_forall_ne_some.mpr fun u q => ?_)
      rw [notK b u q] at e
      cases e
  obtain ⟨lm, l1, l2⟩ := Y.lim
  have M : L2.Mod K mg (hidT s0.heap (withT (cs.map (·.2)) H0)) := ⟨Kbase, spaces Y.main, ⟨mb, spaces Y.blt, Y.boot⟩, ⟨lm, spaces l1, l2⟩⟩
  have start0 : Env0 P w K mg (hidT s0.heap (withT (cs.map (·.2)) H0)) callerA [] s0 (withT (cs.map (·.2)) H0) :=
    ⟨rfl, M, fun b o e => of_hidT e, Nat.le_of_eq (hidT_size _ _), trivial, fun b z => absurd (show b ∈ ([] : List Addr) from z) (by simp), ok1, .of_eq Y.gens⟩
  have many : vals.length = xs0.length := (wellAll_len hwl).trans hlen
  have run := (G _ Kbase (spaces Y.main) (tb_of T Y.main Y.bmod free)).run callerA [] s0 _ ⟨vals, []⟩ vals (vals.map toV) _ _ room start0 (hbind s0 vals many) plainV (hsp _ _ tab args)
  refine codeAny_mono run fun r t x => ?_
  match r, x with
  | .error e, x => exact False.elim x
  | .ok .next, x => exact False.elim x
  | .ok .brk, x => exact False.elim x
  | .ok .cont, x => exact False.elim x
  | .ok (.ret u), ⟨v, H', os, bare, un, okEnd, rel, q⟩ =>
    have kept : ∀ b o, b ∉ cs.map (·.2) → s0.heap.get? b = some o → t.heap.get? b = some o := fun b o nb e => by
      rcases which b with z | ⟨fo, fu, z⟩
      · exact un.keep b o e ((withT_out nb).trans z) (fun y => absurd (show b ∈ ([] : List Addr) from y) (by simp)) (by simp)
      · have g1 := (ok0 b _ z).1
        have g2 := (okEnd b _ (un.frzs b fo _ (out b _ z))).1
        rw [e] at g1
        cases g1
        exact g2
    have grown : ∀ p ∈ cs, ∃ more : Array Value, t.heap.get? p.2 = some ⟨.none, none, .fields more, #[]⟩ := fun p hp =>
      let ⟨more, z⟩ := un.tbls p.2 #[] (tab p hp)
      ⟨_, okEnd p.2 _ z⟩
    have Kend : K.In t.heap := fun b o e => kept b o (fun hm => by
      obtain ⟨p, hp, rfl⟩ := List.mem_map.mp hm
      rw [T.nok p hp] at e
      cases e) (Y.kin b o e)
    obtain ⟨ads, hrd⟩ := Dw.reads (R := rec) (cl := cl) okEnd Kend ans v u q rel
    have older : OldK s0.heap t.heap := by
      refine ⟨fun b o e => ?_, fun b o e => ?_⟩ <;> by_cases hm : b ∈ cs.map (·.2)
      · obtain ⟨p, hp, rfl⟩ := List.mem_map.mp hm
        obtain ⟨more, hmore⟩ := grown p hp
        have here := T.at_ p hp
        rw [here] at e
        cases e
        exact .inr (.inl ⟨((T.hd p hp).tab here).isCodeTable, rfl, #[], more, rfl, by rw [Array.empty_append]; exact hmore⟩)
      · exact .inl (kept b o hm e)
      · obtain ⟨p, hp, rfl⟩ := List.mem_map.mp hm
        obtain ⟨more, hmore⟩ := grown p hp
        exact ⟨_, hmore⟩
      · exact ⟨o, kept b o hm e⟩
    exact ⟨u, ads, rfl, hrd, older, os, bare⟩
end
/-- the goal that k_headS leaves (case hc), for a program that makes lambdas and whose def lets no exception out. The promise hangs on K and the tables -/
theorem walk_specTs {row : OpenSpec} {lev : Nat} {text : Program} {lo : List Str} {XP : (Str → Option Value) → Heap → Prop} {YP : World → Heap → Prop} {d : DefRec} {K : Params → PySem.W.Frag} {xs0 : List Str} {sp : PySem.W.Frag → List (Addr × Addr) → Sp}
    (said : row.wellSaid = true) (nodf : d.params.defaults = []) (many : row.args.length = xs0.length) (room : Room lev callerA) (kin : ∀ (w : World) (h : Heap), YP w h → (K w.params).In h)
    (F : ∀ (w : World) (mg : Str → Option Value) (fa : Addr) (h : Heap), h.Ns mainGlobals mg → (K w.params).In h → mg d.name = some (.ref fa) →
      (∀ (e : DefRec) (x : Str) (c P : Addr), (recsOf text).find? (fun e => e.name == x) = some e → PySem.W.tabIn (K w.params) x = some (c, P) → CodeHd h c P ∧ h.get? P = some { cls := .none, data := .fields #[] }) →
      ∃ (fd : FuncData) (cs : List (Addr × Addr)), TabsIn (K w.params) h cs ∧ (∀ (s : Shared) (us : List Value), us.length = xs0.length → BindsTo s fd ⟨us, []⟩ (xs0.zip us)) ∧
        ∀ base : Heap, (K w.params).In base → base.Ns mainGlobals mg → (∀ p ∈ cs, TabB base mg p.1 p.2) → FnOk row.prog w (K w.params) mg base CX0 lev fa fd xs0 (sp (K w.params) cs))
    (S : ∀ (K : PySem.W.Frag) (cs : List (Addr × Addr)) (H : Hp) (xs : List V) (a : Codec.denoteAll row.args), (∀ p ∈ cs, H p.2 = some (.tbl #[])) → Codec.withinAll row.args a = true → Codec.app row.args row.asked a = true → DwAll K H xs (Codec.encAll row.args a) →
      sp K cs xs H (fun v H' => Dw K H' v (row.ret.enc (Codec.app row.args row.f a))) fun _ _ _ => False) :
    PySem.W.WalkOS text lo XP YP row d [] fun g us => PySem.call g us := by
  intro w s₀ s1 mg mb Gd Y fa o pm cd doc dV kV ho hd hcd hD atfa noGens args vals as pre lay rd well loo
  obtain ⟨a, dec, asks⟩ := PySem.W.os_pre_some pre
  obtain ⟨rfl, inside⟩ := Codec.encAll_of_decAll row.args args a dec
  have KX := kin w _ Y
  obtain ⟨fd, cs, tabs, binds, prom⟩ := F w mg fa _ Gd.T.g KX atfa fun e x c P h1 h2 => PySem.W.tab_of Gd.T KX h1 h2
  have Z : Entry w (K w.params) mg mb s1 cs := ⟨KX, Gd.T.g, Gd.T.b, Gd.T.builtins, Gd.T.nolimit, noGens, Gd.T.bmain, tabs⟩
  have run := spec_tabs (rec := []) (cl := classAt s₀.heap) (ans := row.ret.enc (Codec.app row.args row.f a)) Z well (pl_encAll _ _) (layable_weight lay) room prom binds ((encAll_len _ _).trans many) fun H xs h1 h2 => S _ cs H xs a h1 inside asks h2
  refine PySem.W.enter_call (codeAny_mono run fun r t ⟨u, ads, e, rds, old, os, bare⟩ => ?_)
  subst e
  refine ⟨.inl ⟨u, _, ads, rfl, fun _ => rfl, rds, ?_, fun z => nomatch (show false = true from z)⟩, old, os, bare⟩
  exact (OpenSpec.post_iff said inside _ _).mpr rfl
end OvE
/-! sorted(range(n), key=f), f a function that gives a pair of ints for each number and changes nothing. -/
namespace OvS
open PySem PySem.Spec PyProof.Rows L2 LamX NdefX

/-! ### small steps of the invariant -/
section
variable {X : Cx} {pins : List (Addr × Obj)} {σ : L2.St} {H : Hp} {s : Shared}
/-- a number that the frame, the cells, the pins and the entry know nothing of -/
structure Own (X : Cx) (pins : List (Addr × Obj)) (a : Addr) : Prop where
  new : X.s_0.heap.objs.size ≤ a
  loc : a ≠ X.env.locals
  fs : a ∉ X.fs
  cel : ∀ x c, X.env.cells.lookup x = some c → c ≠ a
  pin : ∀ p ∈ X.pn ++ pins, p.1 ≠ a
theorem own_of (I : Inv X pins σ H s) {a : Addr} (h : s.heap.objs.size ≤ a) : Own X pins a := by
  refine ⟨Nat.le_trans I.sz h, fun e => ?_, I.nofs h, fun x c e z => ?_, fun p hp z => ?_⟩
  · exact absurd (Nat.lt_of_lt_of_le I.lt h) (by rw [e]; exact Nat.lt_irrefl _)
  · obtain ⟨v, o, ho, _⟩ := I.cell x c e
    exact absurd (Nat.lt_of_lt_of_le (Heap.lt_size ho) h) (by rw [z]; exact Nat.lt_irrefl _)
  · exact absurd (Nat.lt_of_lt_of_le (Heap.lt_size (I.pin p hp).1) h) (by rw [z]; exact Nat.lt_irrefl _)
/-- an own object that stands untracked is tracked from now on -/
theorem adopt {a : Addr} {o : HO} (I : Inv X pins σ H s) (hn : H a = none) (w : Own X pins a) (new : ObjOk X.prog X.w (upd H a o) s.heap a o) : Inv X pins σ (upd H a o) s := by
  have out : ∀ b u, H b = some u → upd H a o b = some u := fun b u e => (upd_ne (ne_of_none e hn)).trans e
  refine ⟨I.ok, I.os, I.bare, ⟨I.base.keep, I.base.slot, fun b u e n hx => ?_, I.base.there, fun b xs e => out _ _ (I.base.tups b xs e), fun b u xs e => out _ _ (I.base.frzs b u xs e), fun b ps e => ?_⟩,
    I.loc, I.cell, (upd_ne (fun z => w.loc z.symm)).trans I.free, fun x c e => (upd_ne (w.cel x c e)).trans (I.freeC x c e), fun p hp => ?_, fun b u e => ?_, I.len⟩
  · have hb : b ≠ a := by
      intro z
      exact absurd (Nat.lt_of_lt_of_le (Heap.lt_size e) w.new) (by rw [z]; exact Nat.lt_irrefl _)
    exact (upd_ne hb).trans (I.base.free b u e n hx)
  · obtain ⟨more, z⟩ := I.base.tbls b ps e
    exact ⟨more, out _ _ z⟩
  · obtain ⟨e, n, l, f, d⟩ := I.pin p hp
    exact ⟨e, (upd_ne (w.pin p hp)).trans n, l, f, d⟩
  · by_cases hb : b = a
    · subst hb
      rw [upd_same] at e
      cases e
      exact new
    · rw [upd_ne hb] at e
      exact (I.hok b u e).stay (fun c v _ z => z) (fun c z => out c _ z) fun c xs z => out c _ z
/-- pins dropped, in whatever order -/
theorem repin {pins' : List (Addr × Obj)} (I : Inv X pins σ H s) (h : ∀ p ∈ pins', p ∈ pins) : Inv X pins' σ H s := I.pins_of fun p hp => I.pin p (List.mem_append_right _ (h p hp))
/-- an own object is pinned -/
theorem addpin {a : Addr} {o : Obj} (I : Inv X pins σ H s) (w : Own X pins a) (e : s.heap.get? a = some o) (n : H a = none) (d : ∀ v, o.data ≠ .cell v) : Inv X ((a, o) :: pins) σ H s := I.pins_of fun p hp => by
  rcases List.mem_cons.mp hp with z | z
  · rw [z]
    exact ⟨e, n, w.loc, w.fs, d⟩
  · exact I.pin p (List.mem_append_right _ z)
/-- an own pinned object is changed -/
theorem repinned {a : Addr} {o o' : Obj} {h' : Heap} (I : Inv X ((a, o) :: pins) σ H s) (w : Own X pins a) (k : Heap.SameBut a s.heap h') (e : h'.get? a = some o') (d : ∀ v, o'.data ≠ .cell v) : Inv X ((a, o') :: pins) σ H { s with heap := h' } := by
  have hn : H a = none := (I.pin (a, o) (List.mem_append_right _ (List.mem_cons_self ..))).2.1
  have I1 : Inv X pins σ H s := repin I fun p hp => List.mem_cons_of_mem _ hp
  have I2 : Inv X pins σ H { s with heap := h' } := I1.turned (t' := s.toks) (fun b u hb q => (k.2 b hb).trans q) hn w.loc (.inr w.new) w.cel w.pin
  exact addpin I2 w e hn d
end

/-! ### what the key function does -/
/-- all that was tracked stands -/
def Grow (H H' : Hp) : Prop := ∀ b o, H b = some o → H' b = some o
theorem Grow.refl (H : Hp) : Grow H H := fun _ _ e => e
theorem Grow.trans {H H1 H2 : Hp} (a : Grow H H1) (b : Grow H1 H2) : Grow H H2 := fun c o e => b c o (a c o e)
theorem Grow.upd {H : Hp} {p : Addr} {o : HO} (h : H p = none) : Grow H (upd H p o) := fun b u e => (upd_ne (ne_of_none e h)).trans e
/-- f gives for i a new tuple (g i, i) -/
def KeyOk (X : Cx) (σ : L2.St) (A : Around) (f : Addr) (n : Nat) (g : Nat → Int) (H : Hp) : Prop :=
  ∀ (i : Nat) (t : Tok) (pins : List (Addr × Obj)) (H1 : Hp) (s : Shared), i < n → Grow H H1 → Inv X pins σ H1 s →
    wpAny (model X.prog X.w) A (call (.ref f) [.int i t]) (fun u s' => ∃ p, u = .ref p ∧ H1 p = none ∧ Inv X pins σ (L2.upd H1 p (.tup [.int (g i), .int i])) s') (fun _ _ => False) s
/-- the keys made so far -/
def KeysAt (g : Nat → Int) (H : Hp) (ks : List Value) : Prop := ∀ (j : Nat) (u : Value), ks[j]? = some u → ∃ p, u = .ref p ∧ H p = some (.tup [.int (g j), .int j])
theorem keys_snoc {g : Nat → Int} {H : Hp} {ks : List Value} {p : Addr} (h : KeysAt g H ks) (hn : H p = none) : KeysAt g (upd H p (.tup [.int (g ks.length), .int ks.length])) (ks ++ [.ref p]) := fun j u e => by
  by_cases hj : j < ks.length
  · rw [List.getElem?_append_left hj] at e
    obtain ⟨q, e1, e2⟩ := h j u e
    exact ⟨q, e1, (upd_ne (ne_of_none e2 hn)).trans e2⟩
  · have hj2 : j = ks.length := by
      have := (List.getElem?_eq_some_iff.mp e).1
      rw [List.length_append, List.length_singleton] at this
      omega
    subst hj2
    rw [List.getElem?_append_right (Nat.le_refl _), Nat.sub_self] at e
    cases e
    exact ⟨p, rfl, upd_same⟩
/-- the items -/
def ItemsAt (n : Nat) (vs : List Value) : Prop := vs.length = n ∧ ∀ (j : Nat) (u : Value), vs[j]? = some u → ∃ t, u = .int j t
/-! ### the pairs -/
def keyOf (H : Hp) (v : Value) : Int × Int := match v with
  | .ref p => (match H p with
    | some (.tup [.int x, .int y]) => (x, y)
    | _ => (0, 0))
  | _ => (0, 0)
theorem keyOf_at {H : Hp} {p : Addr} {x y : Int} (e : H p = some (.tup [.int x, .int y])) : keyOf H (.ref p) = (x, y) := by
  show (match H p with
    | some (.tup [.int x, .int y]) => (x, y)
    | _ => (0, 0)) = (x, y)
  rw [e]
/-- before, by (g, number): what sorted promises of two in turn -/
def NotAfter (g : Nat → Int) (i j : Nat) : Prop := ¬ (g j < g i ∨ (g j = g i ∧ j < i))
theorem pairs_out {g : Nat → Int} {H : Hp} {ks vs : List Value} {n : Nat} {arr : List Keyed} (hk : KeysAt g H ks) (hl : ks.length = n) (hv : ItemsAt n vs)
    (hs : SrtO.Srtd (SrtO.lt2 fun v u => SrtO.lexB (keyOf H v) (keyOf H u)) arr) (hp : arr.Perm (ks.zip vs)) :
    ∃ is : List Nat, is.Perm (List.range n) ∧ is.Pairwise (NotAfter g) ∧ Vals (is.map fun (i : Nat) => V.int (i : Int)) (arr.map (·.2)) := by
  have each : ∀ q ∈ arr, ∃ i t, (keyOf H q.1).2 = ((i : Nat) : Int) ∧ (keyOf H q.1).1 = g i ∧ q.2 = .int i t := fun q hq => by
    obtain ⟨j, hj⟩ := List.mem_iff_getElem?.mp (hp.mem_iff.mp hq)
    rw [List.getElem?_zip_eq_some] at hj
    obtain ⟨h1, h2⟩ := hj
    obtain ⟨p, e1, e2⟩ := hk j _ h1
    obtain ⟨t, e3⟩ := hv.2 j _ h2
    rw [e1, keyOf_at e2]
    exact ⟨j, t, rfl, rfl, e3⟩
  refine ⟨arr.map fun q => (keyOf H q.1).2.toNat, ?_, ?_, ?_⟩
  · refine (hp.map _).trans (List.Perm.of_eq ?_)
    apply List.ext_getElem?
    intro j
    rw [List.getElem?_map]
    by_cases hj : j < n
    · have h1 : j < ks.length := by omega
      have h2 : j < vs.length := by rw [hv.1]; exact hj
      have h3 : (ks.zip vs)[j]? = some (ks[j], vs[j]) := List.getElem?_zip_eq_some.mpr ⟨List.getElem?_eq_getElem h1, List.getElem?_eq_getElem h2⟩
      obtain ⟨p, e1, e2⟩ := hk j _ (List.getElem?_eq_getElem h1)
      rw [h3, List.getElem?_range hj]
      show some (keyOf H ks[j]).2.toNat = some j
      rw [e1, keyOf_at e2]
      simp
    · rw [List.getElem?_eq_none (by rw [List.length_zip]; omega), List.getElem?_eq_none (by rw [List.length_range]; omega)]
      rfl
  · refine List.pairwise_map.mpr (List.Pairwise.imp_of_mem (fun {a b} ha hb h => ?_) hs)
    obtain ⟨i, t, e1, e2, _⟩ := each a ha
    obtain ⟨j, u, f1, f2, _⟩ := each b hb
    have h' := SrtO.lexB_no.mp h
    unfold NotAfter
    rw [e1, e2, f1, f2] at h'
    rw [e1, f1]
    simp only [Int.toNat_natCast]
    omega
  · rw [List.map_map]
    have go : ∀ l : List Keyed, (∀ q ∈ l, ∃ i t, (keyOf H q.1).2 = ((i : Nat) : Int) ∧ (keyOf H q.1).1 = g i ∧ q.2 = .int i t) → Vals (l.map ((fun (i : Nat) => V.int (i : Int)) ∘ fun q => (keyOf H q.1).2.toNat)) (l.map (·.2)) := by
      intro l
      induction l with
      | nil => exact fun _ => .nil
      | cons q r ih =>
        intro h
        refine .cons ?_ (ih fun q hq => h q (List.mem_cons_of_mem _ hq))
        obtain ⟨i, t, e1, _, e3⟩ := h q (List.mem_cons_self ..)
        show RelV (V.int (((keyOf H q.1).2.toNat : Nat) : Int)) q.2
        rw [e1, e3]
        exact ⟨t, by simp⟩
    exact go arr each
theorem keys_pairs {P : Program} {w : World} {g : Nat → Int} {H : Hp} {h : Heap} {ks : List Value} (hok : HOk P w H h) (hk : KeysAt g H ks) : ∀ v ∈ ks, Srt.IsPair h v (keyOf H v).1 (keyOf H v).2 := fun v hv => by
  obtain ⟨j, hj⟩ := List.mem_iff_getElem?.mp hv
  obtain ⟨p, e1, e2⟩ := hk j v hj
  obtain ⟨_, its, rv, o, ho, hc, n, hd⟩ := hok p _ e2
  obtain ⟨u1, u2, rfl, ⟨t1, rfl⟩, ⟨t2, rfl⟩⟩ := vals2 rv
  rw [e1, keyOf_at e2]
  exact ⟨p, o, t1, t2, n, rfl, ho, hc, hd⟩

/-! ### the run -/
section
variable {X : Cx} {pins : List (Addr × Obj)} {σ : L2.St} {H : Hp} {s : Shared} {A : Around} {E : Value → Shared → Prop} {f a kS : Addr} {n : Nat} {g : Nat → Int}
/-- every turn of the loop that asks for the keys -/
theorem keys_loop {body : Value → PUnit → Sem (ForInStep PUnit)} (wk : Own X pins kS) (wa : Own X pins a) (ne : kS ≠ a) (hn : n ≤ 1000) {e1 : Nat} {H0 : Hp} (K : KeyOk X σ A f n g H0)
    (hb : ∀ (x : Value) (s : Shared) (R : ForInStep PUnit → Shared → Prop), wpAny (model X.prog X.w) A (call (.ref f) [x]) (fun k s' => wpAny (model X.prog X.w) A (Builtin.List.listUpdate (.ref kS) (·.push k)) (fun _ s'' => R (.yield ⟨⟩) s'') E s') (fun _ _ => False) s → wpAny (model X.prog X.w) A (body x ⟨⟩) R E s) :
    ∀ (r : List Value) (j : Nat) (ks : List Value) (e : Nat) (H : Hp) (s : Shared), ks.length = j → j + r.length = n → (∀ (i : Nat) (u : Value), r[i]? = some u → ∃ t, u = .int ((j + i : Nat) : Int) t) → Grow H0 H → KeysAt g H ks →
      Inv X ((kS, seqObj "list" ks.toArray e) :: (a, seqObj "list" #[] e1) :: pins) σ H s →
      wpAny (model X.prog X.w) A (forIn r PUnit.unit body) (fun _ s' => ∃ ks e H', ks.length = n ∧ Grow H0 H' ∧ KeysAt g H' ks ∧ Inv X ((kS, seqObj "list" ks.toArray e) :: (a, seqObj "list" #[] e1) :: pins) σ H' s') E s
  | [], j, ks, e, H, s, hl, hj, _, hg, hk, I => by
    rw [List.forIn_nil]
    exact wpAny_pure ⟨ks, e, H, by rw [hl]; simpa using hj, hg, hk, I⟩
  | x :: r, j, ks, e, H, s, hl, hj, hx, hg, hk, I => by
    rw [List.length_cons] at hj
    obtain ⟨t, rfl⟩ := hx 0 x rfl
    rw [List.forIn_cons]
    refine wpAny_bind (hb _ s _ (wpAny_mono (K (j + 0) t _ H s (by omega) hg I) (fun u s' hq => ?_) fun _ _ z => z))
    obtain ⟨p, rfl, np, I1⟩ := hq
    have pk := I1.pin (kS, seqObj "list" ks.toArray e) (List.mem_append_right _ (List.mem_cons_self ..))
    refine listUpdate_at pk.1 rfl ?_ (by rw [List.size_toArray, sizeLine_eq]; omega) (Nat.le_trans (Nat.le_of_eq (Array.size_push ..)) (by rw [List.size_toArray, sizeLine_eq]; omega))
    obtain ⟨c2, hc2⟩ : ∃ c2, (s'.heap.update kS (Obj.mapSeq (·.push (.ref p)))).get? kS = some (seqObj "list" (ks.toArray.push (.ref p)) c2) := ⟨_, get?_update_seq pk.1 (·.push (.ref p))⟩
    have ea : ks.toArray.push (Value.ref p) = (ks ++ [Value.ref p]).toArray := by simp
    rw [ea] at hc2
    have wk2 : Own X ((a, seqObj "list" #[] e1) :: pins) kS := ⟨wk.new, wk.loc, wk.fs, wk.cel, fun q hq => by
      rcases List.mem_append.mp hq with z | z
      · exact wk.pin q (List.mem_append_left _ z)
      · rcases List.mem_cons.mp z with z | z
        · rw [z]; exact Ne.symm ne
        · exact wk.pin q (List.mem_append_right _ z)⟩
    have I2 := repinned I1 wk2 (Heap.SameBut.update s'.heap kS (Obj.mapSeq (·.push (.ref p)))) hc2 (fun v z => by cases z)
    have hk2 := keys_snoc hk np
    rw [hl] at hk2
    show wpAny _ A (forIn r PUnit.unit body) _ E _
    refine keys_loop wk wa ne hn K hb r (j + 1) (ks ++ [.ref p]) c2 _ _ (by rw [List.length_append, List.length_singleton, hl]) (by omega) (fun i u e => ?_) (hg.trans (Grow.upd np)) hk2 I2
    obtain ⟨t', e'⟩ := hx (i + 1) u e
    exact ⟨t', by rw [e']; congr 2; omega⟩
/-- what list.sort by a key does, from the emptied list on -/
theorem sort_end (wk : Own X pins kS) (wa : Own X pins a) (ne : kS ≠ a) (hn : n ≤ 1000) {e e1 : Nat} {ks vs : List Value} {P : PySem.Fin → Shared → Prop} (hk : KeysAt g H ks) (hl : ks.length = n) (hv : ItemsAt n vs)
    (I : Inv X ((kS, seqObj "list" ks.toArray e) :: (a, seqObj "list" #[] e1) :: pins) σ H s)
    (h : ∀ (is : List Nat) (s' : Shared), is.Perm (List.range n) → is.Pairwise (NotAfter g) → Inv X pins σ (upd H a (.lst (is.map fun (i : Nat) => V.int (i : Int)))) s' → P (.done (.ret .none)) s') :
    wpAny (model X.prog X.w) A (ksk_end a false vs.toArray e1 (.ref kS) ks.toArray) P E s := by
  have pk := I.pin (kS, seqObj "list" ks.toArray e) (List.mem_append_right _ (List.mem_cons_self ..))
  have pa := I.pin (a, seqObj "list" #[] e1) (List.mem_append_right _ (List.mem_cons_of_mem _ (List.mem_cons_self ..)))
  have hlv : vs.length = n := hv.1
  have zipE : (ks.toArray.zip vs.toArray).toList = ks.zip vs := by simp
  have fin : ∀ st : SortSt, SrtO.Srtd (SrtO.lt2 fun v u => SrtO.lexB (keyOf H v) (keyOf H u)) (arrOf st).toList → (arrOf st).toList.Perm (ks.zip vs) → failedOf st = none → wpAny (model X.prog X.w) A (ksk_tail a false e1 (.ref kS) st) P E s := by
    intro st h1 h2 h3
    obtain ⟨is, q1, q2, q3⟩ := pairs_out hk hl hv h1 h2
    have hsz : (arrOf st).size = n := by
      have := h2.length_eq
      rw [List.length_zip, hl, hlv, Array.length_toList] at this
      omega
    unfold ksk_tail
    try dsimp only
    refine wpAny_bind (listUpdate_at pk.1 rfl ?_ (by rw [List.size_toArray, hl, sizeLine_eq]; omega) (Nat.zero_le _))
    refine wpAny_bind (wpAny_letGo ?_)
    have same1 := Heap.SameBut.update s.heap kS (Obj.mapSeq fun _ => (#[] : Array Value))
    have ea : (s.heap.update kS (Obj.mapSeq fun _ => (#[] : Array Value))).get? a = some (seqObj "list" #[] e1) := (same1.2 a (Ne.symm ne)).trans pa.1
    refine wpAny_bind (seqEpoch_at ea rfl ?_)
    refine wpAny_bind (listUpdate_at ea rfl ?_ (Nat.zero_le _) (by show ((arrOf st).map (·.2)).size ≤ _; rw [Array.size_map, hsz, sizeLine_eq]; omega))
    rw [h3]
    simp only [bne_self_eq_false, Bool.false_eq_true, if_false]
    refine wpAny_pure (h is _ q1 q2 ?_)
    have wk2 : Own X ((a, seqObj "list" #[] e1) :: pins) kS := ⟨wk.new, wk.loc, wk.fs, wk.cel, fun q hq => by
      rcases List.mem_append.mp hq with z | z
      · exact wk.pin q (List.mem_append_left _ z)
      · rcases List.mem_cons.mp z with z | z
        · rw [z]; exact Ne.symm ne
        · exact wk.pin q (List.mem_append_right _ z)⟩
    obtain ⟨ck, hck⟩ : ∃ ck, (s.heap.update kS (Obj.mapSeq fun _ => (#[] : Array Value))).get? kS = some (seqObj "list" #[] ck) := ⟨_, get?_update_seq pk.1 fun _ => #[]⟩
    have I1 := repinned I wk2 same1 hck (fun v z => by cases z)
    have I2 : Inv X ((a, seqObj "list" #[] e1) :: pins) σ H { s with heap := s.heap.update kS (Obj.mapSeq fun _ => (#[] : Array Value)) } := repin I1 fun p hp => List.mem_cons_of_mem _ hp
    obtain ⟨ca, hca⟩ : ∃ ca, ((s.heap.update kS (Obj.mapSeq fun _ => (#[] : Array Value))).update a (Obj.mapSeq fun _ => (arrOf st).map (·.2))).get? a = some (seqObj "list" ((arrOf st).map (·.2)) ca) := ⟨_, get?_update_seq ea fun _ => (arrOf st).map (·.2)⟩
    have I3 := repinned I2 wa (Heap.SameBut.update _ a (Obj.mapSeq fun _ => (arrOf st).map (·.2))) hca (fun v z => by cases z)
    have I4 : Inv X pins σ H _ := repin I3 fun p hp => List.mem_cons_of_mem _ hp
    refine adopt I4 pa.2.1 wa ⟨?_, ((arrOf st).map (·.2)).toList, ca, ?_, ?_⟩
    · rw [List.length_map, q1.length_eq, List.length_range, sizeLine_eq]
      omega
    · rw [Array.toList_map]
      exact q3
    · rw [Array.toArray_toList]
      exact hca
  unfold ksk_end
  try dsimp only
  simp only [Bool.false_eq_true, if_false]
  by_cases short : vs.toArray.size < 2
  · rw [if_pos short, if_pos short]
    refine wpAny_bind (wpAny_pure ?_)
    rw [StateT.run_pure]
    refine wpAny_bind (wpAny_pure ?_)
    rw [List.size_toArray] at short
    refine fin (SortSt.mk' general' (ks.toArray.zip vs.toArray) #[] 7 none) ?_ ?_ rfl
    · show SrtO.Srtd _ (ks.toArray.zip vs.toArray).toList
      rw [zipE]
      have hz : (ks.zip vs).length < 2 := by rw [List.length_zip]; omega
      match ks.zip vs, hz with
      | [], _ => exact List.Pairwise.nil
      | [_], _ => exact List.pairwise_singleton _ _
      | _ :: _ :: _, z => exact absurd z (by rw [List.length_cons, List.length_cons]; omega)
    · show (ks.toArray.zip vs.toArray).toList.Perm (ks.zip vs)
      rw [zipE]
  · rw [if_neg short, if_neg short]
    rw [List.size_toArray] at short
    have hp := keys_pairs I.hok hk
    obtain ⟨fs, f1, f2, f3⟩ := Srt.firsts_of fun v hm => ⟨_, _, hp v hm⟩
    refine wpAny_bind (PySem.W.kat_kind (T := .type "int") f1 (by omega) (fun u hm => ?_) (by rfl) ?_)
    · obtain ⟨x, t, rfl⟩ := f3 u hm
      exact PySem.W.Looks.now
    have e0 : (Value.type "int" != Value.type "tuple") = true := by first | decide +kernel | rfl | decide
    rw [e0]
    have hall : SrtO.AllL (fun p : Keyed => p.1 ∈ ks) (ks.toArray.zip vs.toArray).toList := fun p hm => by
      rw [zipE] at hm
      exact (List.of_mem_zip hm).1
    refine wpAny_bind (wpAny_mono (SrtO.wpS_sortO (st0 := SortSt.mk' (tuples' true) (ks.toArray.zip vs.toArray) #[] 7 none)
      (Q := fun _ st' => SrtO.Srtd (SrtO.lt2 fun v u => SrtO.lexB (keyOf H v) (keyOf H u)) (arrOf st').toList ∧ (arrOf st').toList.Perm (ks.zip vs) ∧ failedOf st' = none)
      (SrtO.swo2 (SrtO.swo_lex (keyOf H))) (SrtO.pair_cmp hp) rfl hall rfl rfl fun st' a1 a2 a3 => ⟨a1, ?_, a3⟩) ?_ fun _ _ z => z)
    · have a2' : (arrOf st').toList.Perm (ks.toArray.zip vs.toArray).toList := a2.perm
      rw [zipE] at a2'
      exact a2'
    · rintro ⟨⟨⟩, st'⟩ s' ⟨rfl, h1, h3, h4⟩
      exact fin st' h1 h3 h4
end
end OvS
namespace OvS
open PySem PySem.Spec PyProof.Rows L2 LamX NdefX
section
variable {X : Cx} {pins : List (Addr × Obj)} {σ : L2.St} {H : Hp} {s : Shared} {A : Around} {E : Value → Shared → Prop} {f a kS r : Addr} {n : Nat} {g : Nat → Int}
/-- list.sort(key=f) of a list that nobody else knows -/
theorem sort_tree (hn : n ≤ 1000) {H0 : Hp} (K : KeyOk X σ A f n g H0) (hg : Grow H0 H) {vs : List Value} (hv : ItemsAt n vs) (I : Inv X pins σ H s) (hs : s.heap.objs.size ≤ a) {h1 : Heap} (kp : ∀ b o, s.heap.get? b = some o → h1.get? b = some o) (ha : h1.get? a = some (seqObj "list" vs.toArray 0))
    {t1 : Nat} {P : PySem.Fin → Shared → Prop}
    (h : ∀ (is : List Nat) (H' : Hp) (s' : Shared), is.Perm (List.range n) → is.Pairwise (NotAfter g) → Grow H0 H' → H' a = none → Inv X pins σ (upd H' a (.lst (is.map fun (i : Nat) => V.int (i : Int)))) s' → P (.done (.ret .none)) s') :
    wpAny (model X.prog X.w) A (ksk_tree a (.ref f) false) P E { s with heap := h1, toks := t1 } := by
  have lv : vs.length = n := hv.1
  have hla : a < h1.objs.size := Heap.lt_size ha
  unfold ksk_tree
  refine wpAny_bind (listItems_at ha rfl ?_)
  refine wpAny_bind (listUpdate_at ha rfl ?_ (by rw [List.size_toArray, lv, sizeLine_eq]; omega) (Nat.zero_le _))
  obtain ⟨e1, emp1⟩ : ∃ e1, (h1.update a (Obj.mapSeq fun _ => (#[] : Array Value))).get? a = some (seqObj "list" #[] e1) := ⟨_, get?_update_seq ha (fun _ => #[])⟩
  refine wpAny_bind (seqEpoch_at emp1 rfl ?_)
  refine wpAny_bind (wpAny_newTuple ?_ (by show vs.length ≤ _; rw [lv, sizeLine_eq]; omega))
  refine wpAny_bind (wpAny_newList ?_ (Nat.zero_le _))
  refine wpAny_holding ?_
  have sz2 : (h1.update a (Obj.mapSeq fun _ => (#[] : Array Value))).objs.size = h1.objs.size := Heap.size_update ..
  have kp2 : ∀ b o, s.heap.get? b = some o → (((h1.update a (Obj.mapSeq fun _ => (#[] : Array Value))).push (seqObj "tuple" vs.toArray 0)).push (seqObj "list" #[] 0)).get? b = some o := fun b o e => by
    have hb : b ≠ a := fun z => absurd (Nat.lt_of_lt_of_le (Heap.lt_size e) hs) (by rw [z]; exact Nat.lt_irrefl _)
    exact Heap.get?_push_of_some _ (Heap.get?_push_of_some _ ((Heap.get?_update_ne _ _ _ _ hb).trans (kp b o e)))
  have hS : (((h1.update a (Obj.mapSeq fun _ => (#[] : Array Value))).push (seqObj "tuple" vs.toArray 0)).push (seqObj "list" #[] 0)).get? ((h1.update a (Obj.mapSeq fun _ => (#[] : Array Value))).push (seqObj "tuple" vs.toArray 0)).objs.size = some (seqObj "list" #[] 0) := Heap.get?_push_size _ rfl
  have hA : (((h1.update a (Obj.mapSeq fun _ => (#[] : Array Value))).push (seqObj "tuple" vs.toArray 0)).push (seqObj "list" #[] 0)).get? a = some (seqObj "list" #[] e1) := Heap.get?_push_of_some _ (Heap.get?_push_of_some _ emp1)
  have hkS : ((h1.update a (Obj.mapSeq fun _ => (#[] : Array Value))).push (seqObj "tuple" vs.toArray 0)).objs.size = h1.objs.size + 1 := by rw [size_push', sz2]
  show wpAny _ A (ksk_rest a (.ref f) false vs.toArray e1 (.ref _)) _ _ _
  generalize hgk : ((h1.update a (Obj.mapSeq fun _ => (#[] : Array Value))).push (seqObj "tuple" vs.toArray 0)).objs.size = kS at hS hkS
  have hlk : s.heap.objs.size ≤ kS := by
    have h2 : s.heap.objs.size < h1.objs.size := Nat.lt_of_le_of_lt hs hla
    rw [hkS]
    exact Nat.le_of_lt (Nat.lt_succ_of_lt h2)
  have ne : kS ≠ a := fun z => by
    have h2 : a < kS := by
      rw [hkS]
      exact Nat.lt_succ_of_lt hla
    exact absurd h2 (by rw [z]; exact Nat.lt_irrefl _)
  have wk : Own X pins kS := own_of I hlk
  have wa : Own X pins a := own_of I hs
  have wk2 : Own X ((a, seqObj "list" #[] e1) :: pins) kS := ⟨wk.new, wk.loc, wk.fs, wk.cel, fun q hq => by
      rcases List.mem_append.mp hq with z | z
      · exact wk.pin q (List.mem_append_left _ z)
      · rcases List.mem_cons.mp z with z | z
        · rw [z]; exact Ne.symm ne
        · exact wk.pin q (List.mem_append_right _ z)⟩
  have I0 : Inv X pins σ H { s with heap := (((h1.update a (Obj.mapSeq fun _ => (#[] : Array Value))).push (seqObj "tuple" vs.toArray 0)).push (seqObj "list" #[] 0)), toks := t1 } := I.kept (t' := t1) kp2
  have I1 := addpin (addpin I0 wa hA (I.hok.fresh hs) (fun v z => by cases z)) wk2 hS (I.hok.fresh hlk) (fun v z => by cases z)
  unfold ksk_rest
  refine wpAny_bind (wpAny_rule ?_)
  first | rw [List.forIn_toArray] | (rw [← Array.forIn_toList]; simp only [List.toList_toArray])
  refine wpAny_bind (wpAny_mono (keys_loop wk wa ne hn K (fun x s R hx => ?_) vs 0 [] 0 H _ rfl (by omega) (fun i u e => ?_) hg (fun j u e => by simp at e) I1) (fun _ s' hd => ?_) fun _ _ z => z)
  · refine wpAny_bind (wpAny_attempt (wpAny_mono hx (fun k s' hk => ?_) fun _ _ z => z.elim))
    try dsimp only
    exact wpAny_bind (wpAny_mono hk (fun _ s'' q => wpAny_pure q) fun _ _ z => z)
  · obtain ⟨t, e'⟩ := hv.2 i u e
    exact ⟨t, by rw [e']; congr 1; omega⟩
  · obtain ⟨ks, e, H', k1, k2, k3, I2⟩ := hd
    have pk := I2.pin (kS, seqObj "list" ks.toArray e) (List.mem_append_right _ (List.mem_cons_self ..))
    have pa := I2.pin (a, seqObj "list" #[] e1) (List.mem_append_right _ (List.mem_cons_of_mem _ (List.mem_cons_self ..)))
    try dsimp only
    refine wpAny_bind (listItems_at pk.1 rfl ?_)
    exact sort_end wk wa ne hn k3 k1 hv I2 fun is s' q1 q2 I3 => h is H' s' q1 q2 k2 pa.2.1 I3
/-- sorted(r, key=f), r a range -/
theorem sorted_run (hh : X.A.handled = none) (hn : n ≤ 1000) (K : KeyOk X σ X.A.in1.in1 f n g H) (hr : H r = some (.rng 0 n)) (I : Inv X pins σ H s) {Q : VK}
    (h : ∀ (is : List Nat) (H' : Hp) (p : Addr), is.Perm (List.range n) → is.Pairwise (NotAfter g) → Grow H H' → H' p = none → Q (.ref p) (upd H' p (.lst (is.map fun (i : Nat) => V.int (i : Int))))) :
    wpAny (model X.prog X.w) X.A (call (.builtin "sorted") [.ref r] [(Str.ofString "key", .ref f)]) (EP X pins σ Q) E s := by
  refine call_function_entry_kw PyProof.Rows.kind_sorted PyProof.Rows.plain_sorted PyProof.Rows.entry_sorted (ksk_s1 _ _) ?_
  unfold Builtin.«sorted»
  refine wpAny_bind (m := checkCount "sorted" 1 1 _) (wpAny_pure ?_)
  obtain ⟨t, u, v, hr'⟩ := I.hok r _ hr
  refine wpAny_bind (collect_range (n := n) hh hr' (small_one (by omega) (by omega) (by omega) (by omega)) (by rw [rangeSize_nat]; omega) (by omega) fun h' tk acc kp hi => ?_)
  have hv : ItemsAt n acc.toList := ⟨by rw [Array.length_toList]; exact hi.1, fun j u e => by
    obtain ⟨t, e'⟩ := hi.2 j u (by rw [← e, Array.getElem?_toList])
    exact ⟨t, by rw [e']; congr 1; omega⟩⟩
  refine wpAny_bind (wpAny_newList ?_ (by rw [hv.1, sizeLine_eq]; omega))
  have lstAt : (h'.push (seqObj "list" acc.toList.toArray 0)).get? h'.objs.size = some (seqObj "list" acc.toList.toArray 0) := Heap.get?_push_size _ rfl
  have I1 : Inv X pins σ H { s with heap := h', toks := tk } := I.kept (t' := tk) kp
  refine wpAny_bind (wpAny_holding (wpAny_call_entry_kw slot_list_sort ⟨_, lstAt, rfl⟩ entry_list_sort ?body (ksk_l1 _ _)))
  case body =>
    show wpAny (model X.prog X.w) X.A.in1.in1 (Builtin.«list.sort» ⟨[.ref h'.objs.size], [(Str.ofString "key", .ref f)]⟩) _ _ _
    rw [ksk_t1]
    refine sort_tree (s := { s with heap := h', toks := tk }) (t1 := tk) hn K (Grow.refl H) hv I1 (Nat.le_refl _) (fun b o e => Heap.get?_push_of_some _ e) lstAt fun is H' s' q1 q2 q3 q4 I2 => ?_
    exact ⟨_, rfl, wpAny_pure ⟨_, rfl, .ref h'.objs.size, _, I2, rfl, h is H' _ q1 q2 q3 q4⟩⟩
end
end OvS
/-! A lambda with parameters: made, called, handed to sorted as its key. -/
namespace OvS
open PySem PySem.Spec PyProof.Rows L2 LamX NdefX
/-- the words of the lambda made by a def with the qualified name q -/
abbrev lamF (q : Str) (params : Arguments) (scope : Scope) (cl : List (Str × Addr)) (c' : Addr) : NF := ⟨"<lambda>", q, params, [], scope, cl, c'⟩
/-- the object at f is that lambda -/
def LmO (f : Addr) (F : NF) (body : Expr) : HO := .ext fun h => ∃ pm ctv : Value, h.get? f = some (PySem.W.kla_obj "<lambda>" F.qual F.params body F.scope F.cl pm F.c ctv)
theorem lmO_ne {f : Addr} {F : NF} {body : Expr} (ps : Array Value) : LmO f F body ≠ .tbl ps := fun z => by
  unfold LmO at z
  cases z
theorem lmO_at {P : Program} {w : World} {H : Hp} {h : Heap} {f : Addr} {F : NF} {body : Expr} (hok : HOk P w H h) (e : H f = some (LmO f F body)) : ∃ pm ctv : Value, h.get? f = some (PySem.W.kla_obj "<lambda>" F.qual F.params body F.scope F.cl pm F.c ctv) := by
  obtain ⟨z, _, _⟩ := hok f _ e
  exact z
def tLamV (T : List (Addr × Str)) (body : Expr) (mk : Addr → NF) : TE := fun σ H Q => Tabs T H ∧ ∀ (f c' : Addr) (H1 : Hp), ExtN H H1 → Tabs T H1 → H f = none → H1 f = some (LmO f (mk c') body) → H1 c' = some (CodeO c' (mk c').qual) → Q (.ref f) H1
section
variable {X : Cx} {pins : List (Addr × Obj)} {σ : L2.St} {H : Hp} {s : Shared}
/-- a lambda just laid is tracked -/
theorem inv_lam {F : NF} {body : Expr} {pm ctv : Value} {t' : Nat} (I : Inv X pins σ H s) :
    Inv X pins σ (upd H s.heap.objs.size (LmO s.heap.objs.size F body)) { s with heap := s.heap.push (PySem.W.kla_obj "<lambda>" F.qual F.params body F.scope F.cl pm F.c ctv), toks := t' } := by
  have e : (s.heap.push (PySem.W.kla_obj "<lambda>" F.qual F.params body F.scope F.cl pm F.c ctv)).get? s.heap.objs.size = some (PySem.W.kla_obj "<lambda>" F.qual F.params body F.scope F.cl pm F.c ctv) := Heap.get?_push_size _ rfl
  exact I.laid (a := s.heap.objs.size) (t' := t') (fun b u q => Heap.get?_push_of_some _ q) (Nat.le_refl _) ⟨⟨pm, ctv, e⟩, ⟨_, e⟩, fun h1 h2 ⟨p, c, z⟩ st => ⟨p, c, st _ z⟩⟩
/-- a code object laid for the first time: its table grows by a triple, all else stands -/
theorem tabs_more {T : List (Addr × Str)} {H : Hp} {P k : Addr} {ps : Array Value} {q : Str} {pos : Pos} (hT : Tabs T H) (hP : H P = some (.tbl ps)) (ok : TriplesOk ps.toList) (only : ∀ p ∈ T, p.1 = P → p.2 = q) (nk : H k = none)
    (old : ∀ (at_ : Pos) (cv : Value), codeAmong at_ ps.toList = some cv → ∃ c, cv = .ref c ∧ H c = some (CodeO c q)) : ExtN H (upd (upd H P (.tbl (ps ++ #[rawInt pos.line, rawInt pos.col, .ref k]))) k (CodeO k q)) ∧ Tabs T (upd (upd H P (.tbl (ps ++ #[rawInt pos.line, rawInt pos.col, .ref k]))) k (CodeO k q)) := by
  have ext : ExtN H (upd (upd H P (.tbl (ps ++ #[rawInt pos.line, rawInt pos.col, .ref k]))) k (CodeO k q)) := fun x u hx nt => by
    have xk : x ≠ k := ne_of_none hx nk
    have xP : x ≠ P := fun z => by
      rw [z, hP] at hx
      exact nt ps (Option.some.inj hx).symm
    exact (upd_ne xk).trans ((upd_ne xP).trans hx)
  have pk : P ≠ k := ne_of_none hP nk
  have lst : (ps ++ #[rawInt pos.line, rawInt pos.col, .ref k]).toList = ps.toList ++ [rawInt pos.line, rawInt pos.col, .ref k] := by simp
  refine ⟨ext, fun p hp => ?_⟩
  by_cases e : p.1 = P
  · have eq := only p hp e
    refine ⟨ps ++ #[rawInt pos.line, rawInt pos.col, .ref k], by rw [e]; exact (upd_ne pk).trans upd_same, by rw [lst]; exact PySem.TriplesOk_snoc _ _ _ _ ok, fun at_ cv found => ?_⟩
    rw [lst] at found
    rw [eq]
    cases among_app _ ok found with
    | inl z =>
      obtain ⟨c, e1, e2⟩ := old at_ cv z
      exact ⟨c, e1, ext c _ e2 codeO_ne⟩
    | inr z => exact ⟨k, z, upd_same⟩
  · obtain ⟨us, u1, u2, u3⟩ := hT p hp
    refine ⟨us, (upd_ne (ne_of_none u1 nk)).trans ((upd_ne e).trans u1), u2, fun at_ cv found => ?_⟩
    obtain ⟨c, e1, e2⟩ := u3 at_ cv found
    exact ⟨c, e1, ext c _ e2 codeO_ne⟩
theorem pe_lamV {T : List (Addr × Str)} {c P : Addr} {params : Arguments} {body : Expr} {scope : Scope} {pos : Pos} {q : Str} {cl : List (Str × Addr)} (TB : TabB X.base X.mg c P) (hcode : X.env.code = .ref c) (hq : X.env.qual ++ "<lambda>" = q) (hm : (P, q) ∈ T) (hu : ∀ p ∈ T, p.1 = P → p.2 = q)
    (hdef : defaultsOf params X.env = ([], [])) (hfree : ∀ y ∈ scope.names, y.2 = .free → X.env.scope.names.lookup y.1 = some .cell ∨ X.env.scope.names.lookup y.1 = some .free) (hcl : cloFrom X.env.cells scope.names [] = cl) :
    PE X (.Lambda params body scope pos) (tLamV T body (lamF q params scope cl)) := by
  subst hq hcl
  refine ⟨fun pins s σ H Q I ⟨hT, go⟩ => PySem.W.kla_eval hdef ?_⟩
  have cellsOk : ∀ y ∈ scope.names, y.2 = .free → ∃ k, X.env.cells.lookup y.1 = some k := fun y hy e => (hfree y hy e).elim (fun z => I.ok.has y.1 (.inl z)) fun z => I.ok.has y.1 (.inr z)
  obtain ⟨ps, atP, ok, old⟩ := hT (P, X.env.qual ++ "<lambda>") hm
  have tabP := I.hok P _ atP
  -- the lambda's own object, over the heap in which its code object stands
  have laid : ∀ (H1 : Hp) (h1 : Heap) (tk : Nat) (k : Addr) (pm ctv : Value), Inv X pins σ H1 { s with heap := h1, toks := tk } → ExtN H H1 → Tabs T H1 → s.heap.objs.size ≤ h1.objs.size → H1 k = some (CodeO k (X.env.qual ++ "<lambda>")) →
      EP X pins σ Q (.ref h1.objs.size) { s with heap := h1.push (PySem.W.kla_obj "<lambda>" (X.env.qual ++ "<lambda>") params body scope (cloFrom X.env.cells scope.names []) pm k ctv), toks := tk } := fun H1 h1 tk k pm ctv J ext T1 le atk => by
    have new : H1 h1.objs.size = none := J.hok.fresh (Nat.le_refl _)
    have J2 := inv_lam (F := lamF (X.env.qual ++ "<lambda>") params scope (cloFrom X.env.cells scope.names []) k) (body := body) (pm := pm) (ctv := ctv) (t' := tk) J
    have stay : ∀ b u, H1 b = some u → upd H1 h1.objs.size (LmO h1.objs.size (lamF (X.env.qual ++ "<lambda>") params scope (cloFrom X.env.cells scope.names []) k) body) b = some u := fun b u e => (upd_ne (ne_of_none e new)).trans e
    exact ⟨.ref h1.objs.size, _, J2, rfl, go h1.objs.size k _ (fun b u e n => stay b u (ext b u e n)) (T1.ext stay) (I.hok.fresh le) upd_same (stay k _ atk)⟩
  cases known : codeAmong pos ps.toList with
  | some cv =>
    obtain ⟨k, rfl, atk⟩ := old pos cv known
    exact PySem.W.kla_makeFunctionHit (c := c) (P := P) (mg := X.mg) (ps := ps) (closure_ok cellsOk) I.ok.glob (I.mod.glob.keeps I.bk) hcode (TB.code.keeps I.bk) tabP ok known (TB.bm.keeps I.bk) fun ctv h1 tk keep le =>
      laid H h1 tk k _ ctv (I.kept (t' := tk) keep) (ExtN.refl H) hT le atk
  | none =>
    refine PySem.W.kla_makeFunction (c := c) (P := P) (mg := X.mg) (ps := ps) (closure_ok cellsOk) I.ok.glob (I.mod.glob.keeps I.bk) hcode (TB.code.keeps I.bk) tabP ok known TB.gP (TB.bm.keeps I.bk) fun k ctv h1 tk keep ge lt made grown => ?_
    obtain ⟨k', oc, vs, t, z, o1, o2, o3⟩ := made
    cases z
    have nk : H k = none := I.hok.fresh ge
    obtain ⟨ext, T1⟩ := tabs_more (pos := pos) hT atP ok hu nk old
    have J := inv_table (q := X.env.qual ++ "<lambda>") (h' := h1) (t' := tk) (more := #[rawInt pos.line, rawInt pos.col, .ref k]) I atP (fun b u hb e => keep b u hb e) grown ge ⟨oc, vs, t, o1, o2, o3⟩
    exact laid _ h1 tk k _ ctv J ext T1 (Nat.le_trans ge (Nat.le_of_lt lt)) upd_same
end
/-! ### its call -/
section
variable {CX : CXT} {P : Program} {w : World} {K : PySem.W.Frag} {mg : Str → Option Value} {base : Heap} {N ps fr : List Str} {F : NF} {f : Addr} {k : Nat} {body : Expr} {tb : TE}
theorem lam_code (S : NScope N ps fr F.scope) (hb : ∀ (pm ctv : Value) (us : List Value), us.length = ps.length → bindArgs (PySem.W.kla_fn "<lambda>" F.qual F.params body F.scope F.cl pm (.ref F.c) ctv) ⟨us, []⟩ = pure (ps.zip us))
    {A : Around} {outer : List Env} {s : Shared} {H : Hp} {us : List Value} {vs : List V} {ws : List (Option V)} {Q : VK} {E : XK} (hr : Room (k + 1) A) (e0 : Env0 P w K mg base A outer s H) (hf : H f = some (LmO f F body)) (hc : H F.c = some (CodeO F.c F.qual))
    (C : CellsAt F.cl fr ws s.heap H) (r : Vals vs us) (hl : vs.length = ps.length) (hbody : Room k (A.deeper (envF F f s.heap.objs.size)) → PE (ncx CX P w K mg base N F f A outer s H E) body tb) (ht : tb (startF N vs ws) H Q) :
    codeAny (model P w) A (.call (.ref f) ⟨us, []⟩) (CR CX outer P w H s Q E) s := by
  obtain ⟨pm, ctv, at_f⟩ := lmO_at e0.hok hf
  have bound := hb pm ctv us (r.length.symm.trans hl)
  refine PySem.W.kla_callFunE hr.depth at_f rfl S.co S.gen rfl (codeO_at e0.hok hc) ?_
  rw [bound]
  refine wpAny_pure (wpAny_newFunctionEnv S.nocell (fun p hp => S.par p.1 (List.of_mem_zip hp).1) (fun h1 spaces same => ?_) S.kind)
  have keep : ∀ b u, s.heap.get? b = some u → h1.get? b = some u := fun b u e => same.extBut b u (Nat.ne_of_lt (Heap.lt_size e)) (Heap.get?_push_of_some _ e)
  refine ⟨(e0.mod.nolimit.keeps fun b u e => (e0.bs b u e).1).fresh _ same, ?_⟩
  have J : Inv (ncx CX P w K mg base N F f A outer s H E) [] (startF N vs ws) H { s with heap := h1, toks := s.toks + (ps.zip us).length } := inv_startN S hr.hd e0 hl r C spaces keep
  have ran := (hbody (hr.deeper _)).run [] _ _ H Q J ht
  exact PySem.W.kla_codeExpr (wpAny_mono ran (fun v t ⟨x, H1, J1, rel, q⟩ => ⟨x, H1, J1.os, J1.bare, J1.base, J1.hok, rel, q⟩) fun _ _ z => z)
end
/-- sorted(e, key=lambda i: (.., i)), e a range(n) -/
def tSortLam (T : List (Addr × Str)) (N : List Str) (js : List Nat) (te tb : TE) : TE := fun σ H Q => te σ H fun x H1 => ∃ (r : Addr) (n : Nat) (g : Nat → Int), x = .ref r ∧ H1 r = some (.rng 0 n) ∧ n ≤ 1000 ∧ Tabs T H1 ∧
  (∀ H2, ExtN H1 H2 → ∀ i, i < n → tb (startF N [.int (i : Nat)] (js.map (slotAt σ))) H2 fun v H3 => ∃ p, v = .ref p ∧ H2 p = none ∧ H3 = upd H2 p (.tup [.int (g i), .int (i : Nat)])) ∧
  ∀ (is : List Nat) (H2 : Hp) (p : Addr), is.Perm (List.range n) → is.Pairwise (NotAfter g) → ExtN H1 H2 → Tabs T H2 → H2 p = none → Q (.ref p) (upd H2 p (.lst (is.map fun (i : Nat) => V.int (i : Int))))
theorem grow_ext {H H' : Hp} (g : Grow H H') : ExtN H H' := fun b o e _ => g b o e
section
variable {X : Cx} {T : List (Addr × Str)} {N fr : List Str} {js : List Nat} {te tb : TE} {e : Expr} {c P : Addr} {params : Arguments} {body : Expr} {scope : Scope} {q ip : Str} {p pos lpos kpos : Pos} {k : Nat}
theorem pe_sortLam (hc : X.calm = true) (hg : Gl X "sorted") (hm : X.mg "sorted" = none) (he : PE X e te) (TB : TabB X.base X.mg c P) (hcode : X.env.code = .ref c) (hq : X.env.qual ++ "<lambda>" = q) (hmT : (P, q) ∈ T) (hu : ∀ p ∈ T, p.1 = P → p.2 = q)
    (hdef : defaultsOf params X.env = ([], [])) (hnd : ndefB X.env.scope scope fr = true) (hjs : js.map (fun j => X.N[j]?) = fr.map some) (S : NScope N [ip] fr scope)
    (hb : ∀ (q : Str) (cl : List (Str × Addr)) (pm cv ctv : Value) (us : List Value), us.length = 1 → bindArgs (PySem.W.kla_fn "<lambda>" q params body scope cl pm cv ctv) ⟨us, []⟩ = pure ([ip].zip us))
    (hr : Room (k + 3) X.A)
    (hbody : ∀ (F : NF) (f : Addr) (A : Around) (outer : List Env) (s : Shared) (H : Hp), F.scope = scope → Room k (A.deeper (envF F f s.heap.objs.size)) → PE (ncx L2.CX0 X.prog X.w X.K X.mg X.base N F f A outer s H L2.E0) body tb)
    (hs1 : starEach [e] X.env = (false, eval e X.env) :: starEach [] X.env := by rfl) (he1 : backTo pos (starEach [e] X.env) = (false, eval e X.env) :: backTo pos (starEach [] X.env) := by rfl) (hpl : (backTo pos (starEach [e] X.env)).any (·.1) = false := by rfl)
    (hall : (backToKw pos (keywordEach [⟨some (Str.ofString "key"), .Lambda params body scope lpos, kpos⟩] X.env)).all (·.1.isSome) = true := by rfl) (hnone : (backToKw pos (keywordEach [⟨some (Str.ofString "key"), .Lambda params body scope lpos, kpos⟩] X.env)).any (·.1.isNone) = false := by rfl)
    (hks : (backToKw pos (keywordEach [⟨some (Str.ofString "key"), .Lambda params body scope lpos, kpos⟩] X.env)).filterMap (·.1) = [Str.ofString "key"] := by rfl) :
    PE X (.Call (.Name "sorted" p) [e] [⟨some (Str.ofString "key"), .Lambda params body scope lpos, kpos⟩] pos) (tSortLam T N js te tb) := by
  refine ⟨fun pins s σ H Q I h => ?_⟩
  have hl := pe_lamV (X := X) (body := body) (pos := lpos) (scope := scope) TB hcode hq hmT hu hdef (ndef_free hnd) rfl
  refine wpAny_Call_Name_kw (ld_blt (u := .builtin "sorted") I hg hm (by decide +kernel) ?_)
  refine PyProof.Rows.callWith_kw (thn ((pa_cons he pa_nil (hs := hs1)).run pos pins s σ H (fun vs H1 => ∃ x, vs = [x] ∧ ∃ (r : Addr) (n : Nat) (g : Nat → Int), x = .ref r ∧ H1 r = some (.rng 0 n) ∧ n ≤ 1000 ∧ Tabs T H1 ∧
      (∀ H2, ExtN H1 H2 → ∀ i, i < n → tb (startF N [.int (i : Nat)] (js.map (slotAt σ))) H2 fun v H3 => ∃ p, v = .ref p ∧ H2 p = none ∧ H3 = upd H2 p (.tup [.int (g i), .int (i : Nat)])) ∧
      ∀ (is : List Nat) (H2 : Hp) (p : Addr), is.Perm (List.range n) → is.Pairwise (NotAfter g) → ExtN H1 H2 → Tabs T H2 → H2 p = none → Q (.ref p) (upd H2 p (.lst (is.map fun (i : Nat) => V.int (i : Int))))) I ?_)
    fun us s1 ⟨vs, H1, I1, r1, x, e1, r, n, g, e2, hrng, hn, hT, hkey, fin⟩ => ?_) he1 hpl hall hnone
  · show te σ H _
    have h' : te σ H _ := h
    refine (show te σ H (fun x H1 => tNil σ H1 fun xs H2 => _) from ?_)
    have e3 : (fun (x : V) (H1 : Hp) => tNil σ H1 fun (xs : List V) (H2 : Hp) => ∃ y, x :: xs = [y] ∧ ∃ (r : Addr) (n : Nat) (g : Nat → Int), y = .ref r ∧ H2 r = some (.rng 0 n) ∧ n ≤ 1000 ∧ Tabs T H2 ∧
      (∀ H3, ExtN H2 H3 → ∀ i, i < n → tb (startF N [.int (i : Nat)] (js.map (slotAt σ))) H3 fun v H4 => ∃ p, v = .ref p ∧ H3 p = none ∧ H4 = upd H3 p (.tup [.int (g i), .int (i : Nat)])) ∧
      ∀ (is : List Nat) (H3 : Hp) (p : Addr), is.Perm (List.range n) → is.Pairwise (NotAfter g) → ExtN H2 H3 → Tabs T H3 → H3 p = none → Q (.ref p) (upd H3 p (.lst (is.map fun (i : Nat) => V.int (i : Int))))) =
      fun x H1 => ∃ (r : Addr) (n : Nat) (g : Nat → Int), x = .ref r ∧ H1 r = some (.rng 0 n) ∧ n ≤ 1000 ∧ Tabs T H1 ∧
      (∀ H2, ExtN H1 H2 → ∀ i, i < n → tb (startF N [.int (i : Nat)] (js.map (slotAt σ))) H2 fun v H3 => ∃ p, v = .ref p ∧ H2 p = none ∧ H3 = upd H2 p (.tup [.int (g i), .int (i : Nat)])) ∧
      ∀ (is : List Nat) (H2 : Hp) (p : Addr), is.Perm (List.range n) → is.Pairwise (NotAfter g) → ExtN H1 H2 → Tabs T H2 → H2 p = none → Q (.ref p) (upd H2 p (.lst (is.map fun (i : Nat) => V.int (i : Int)))) := by
      funext x H1
      refine propext ⟨fun ⟨y, e, z⟩ => ?_, fun z => ⟨x, rfl, z⟩⟩
      obtain rfl : x = y := (List.cons.inj e).1
      exact z
    rw [e3]
    exact h'
  · subst e1
    subst e2
    obtain rfl := Vals.ref1 r1
    refine thn ((pk_cons (nm := some (Str.ofString "key")) (kpos := kpos) hl pk_nil).run pos pins s1 σ H1 (fun zs H2 => ∃ f c', zs = [.ref f] ∧ ExtN H1 H2 ∧ Tabs T H2 ∧ H2 f = some (LmO f (lamF q params scope (cloFrom X.env.cells scope.names []) c') body) ∧ H2 c' = some (CodeO c' q)) I1
      ⟨hT, fun f c' H2 x1 x2 x3 x4 x5 => ⟨f, c', rfl, x1, x2, x4, x5⟩⟩) fun ws s2 ⟨zs, H2, I2, r2, f, c', e3, x1, x2, x4, x5⟩ => ?_
    subst e3
    obtain rfl := Vals.ref1 r2
    rw [hks]
    show wpAny _ _ (call (.builtin "sorted") [.ref r] [(Str.ofString "key", .ref f)]) _ _ _
    refine sorted_run (n := n) (g := g) (I2.ok.hd hc) hn (fun i t pins' H3 s3 hi g3 I3 => ?_) (x1 r _ hrng (fun ps z => by cases z)) I2 fun is H3 p q1 q2 q3 q4 => fin is H3 p q1 q2 (x1.trans (grow_ext q3)) (x2.ext q3) q4
    have hr2 : Room (k + 1) X.A.in1.in1 := (hr.in1).in1
    have cp : Caps X (cloFrom X.env.cells scope.names []) fr js := Caps.made I3.ok (ndef_free hnd) (ndef_fr hnd) hjs
    refine wpAny_call (codeAny_mono (lam_code (CX := L2.CX0) (F := lamF q params scope (cloFrom X.env.cells scope.names []) c') (N := N) (ps := [ip]) (fr := fr) (k := k) (tb := tb) (body := body) (E := L2.E0) (vs := [.int (i : Nat)]) (us := [.int i t]) (Q := fun v H4 => ∃ p, v = .ref p ∧ H3 p = none ∧ H4 = upd H3 p (.tup [.int (g i), .int (i : Nat)])) S
      (fun pm ctv us hl => hb _ _ _ _ _ us hl) hr2 I3.env0.in1.in1 (g3 f _ x4) (g3 c' _ x5) (cells_of I3 cp) (.cons ⟨t, rfl⟩ .nil) rfl (fun hrk => hbody _ f _ _ _ _ rfl hrk) (hkey H3 (x1.trans (grow_ext g3)) i hi)) fun r' s' hq => ?_)
    cases r' with
    | error e => exact (show False from hq).elim
    | ok fl =>
      cases fl with
      | ret u =>
        obtain ⟨v, H4, I4, rv, p', e4, n4, e5⟩ := I3.after hq
        subst e4
        subst e5
        exact ⟨p', rv, n4, I4⟩
      | next => exact False.elim hq
      | brk => exact False.elim hq
      | cont => exact False.elim hq
end
end OvS
/-! Rules that the layer lacks: range(n) as a value, three comparisons in a chain, a written dict with int keys, a call of a local name that is one of many defs. -/
namespace OvS
open PySem PySem.Spec PyProof.Rows L2 LamX NdefX
section
variable {X : Cx}
theorem cr_range1 : CallR X (.type "range") (fun vs H Q => ∃ j, vs = [V.int j] ∧ ∀ p, H p = none → Q (.ref p) (upd H p (.rng 0 j))) := fun pins s σ H vs us Q I rel ⟨j, e, q⟩ => by
  subst e
  obtain ⟨u, rfl, ⟨t, rfl⟩⟩ := vals1 rel
  refine call_range_1 ⟨.ref s.heap.objs.size, upd H s.heap.objs.size (.rng 0 j), I.laid (t' := s.toks + 2) (fun b o e => Heap.get?_push_of_some _ e) (Nat.le_refl _) ?_, rfl, q _ (I.hok.fresh (Nat.le_refl _))⟩
  exact ⟨_, _, _, Heap.get?_push_size _ rfl⟩
/-- a op1 b op2 c op3 d -/
def tChain3 (r r' r'' : R2) (ta tb tc td : TE) : TE := fun σ H Q => ta σ H fun x H1 => tb σ H1 fun y H2 => r x y H2 fun z H3 => ∃ k, z = .bl k ∧
  (if k = true then tc σ H3 fun y' H4 => r' y y' H4 fun z' H5 => ∃ k', z' = .bl k' ∧ (if k' = true then td σ H5 fun w' H6 => r'' y' w' H6 Q else Q (.bl false) H5) else Q (.bl false) H3)
theorem pe_chain3 {op op' op'' : CmpOp} {r r' r'' : R2} {a b c d : Expr} {ta tb tc td : TE} {pos : Pos} (ho : OpR X (compareOp op) r) (ho' : OpR X (compareOp op') r') (ho'' : OpR X (compareOp op'') r'') (ha : PE X a ta) (hb : PE X b tb) (hc : PE X c tc) (hd : PE X d td)
    (hm : lastMarks [op, op', op''] [b, c, d] = false := by with_unfolding_all rfl) : PE X (.Compare a [op, op', op''] [b, c, d] pos) (tChain3 r r' r'' ta tb tc td) := by
  refine ⟨fun pins s σ H Q I h => Compare_chain (thn (ha.run pins s σ H _ I h) fun va t1 ⟨x, Ha, Ia, ra, qa⟩ => ?_) hm⟩
  refine chain_link (thn (hb.run pins t1 σ Ha _ Ia qa) fun vb t2 ⟨y, Hb, Ib, rb, qb⟩ => thn (ho pins t2 σ Hb x y va vb _ Ib ra rb qb) fun c1 t3 ⟨z, Hz, Iz, rz, b1, e1, q1⟩ => ?_)
  subst e1
  cases rz
  apply wpAny_truthy_bool
  by_cases h1 : b1 = true
  case neg =>
    rw [Bool.eq_false_iff.mpr h1] at q1 ⊢
    exact ite_ff ⟨V.bl false, Hz, Iz, rfl, q1⟩
  case pos =>
    rw [h1] at q1 ⊢
    refine ite_tt (chain_link (thn (hc.run pins t3 σ Hz _ Iz q1) fun vc t4 ⟨y', Hc, Ic, rc, qc⟩ => thn (ho' pins t4 σ Hc y y' vb vc _ Ic rb rc qc) fun c2 t5 ⟨z', Hy, Iy, ry, b2, e2, q2⟩ => ?_))
    subst e2
    cases ry
    apply wpAny_truthy_bool
    by_cases h2 : b2 = true
    case neg =>
      rw [Bool.eq_false_iff.mpr h2] at q2 ⊢
      exact ite_ff ⟨V.bl false, Hy, Iy, rfl, q2⟩
    case pos =>
      rw [h2] at q2 ⊢
      exact ite_tt (chain_last (thn (hd.run pins t5 σ Hy _ Iy q2) fun vd t6 ⟨x', Hd, Id, rd, qd⟩ => ho'' pins t6 σ Hd y' x' vc vd Q Id rc rd qd))
/-! ### a dict of the module, int keys -/
def intLit (e : DictEntry) : Bool := match e.key with
  | .int k _ => decide (e.hash = hashInt k)
  | _ => false
def KDI (K : PySem.W.Frag) (a : Addr) (z : Int) (v : V) : Prop := ∃ es n u, K.lookup a = some ⟨.type "dict", none, .dict es n, #[]⟩ ∧ es.toList.all intLit = true ∧ findBy Value.isInt es z = some u ∧ RelV v u
def rIxDI (K : PySem.W.Frag) : R2 := fun x y H Q => ∃ p z v, x = .ref p ∧ y = .int z ∧ KDI K p z v ∧ Q v H
theorem mapOf_KI {prog : Program} {w : World} {K : PySem.W.Frag} {h : Heap} {a : Addr} {es : Array DictEntry} {n : Nat} (X : K.In h) (hl : K.lookup a = some ⟨.type "dict", none, .dict es n, #[]⟩) (hk : es.toList.all intLit = true) : h.MapOf (intKind prog w) a (fun k => findBy Value.isInt es k) := by
  refine ⟨_, es, n, X _ _ hl, ⟨rfl, rfl, rfl⟩, rfl, fun e he => ?_, fun _ => rfl⟩
  have q := List.all_eq_true.mp hk e (Array.mem_toList_iff.mpr he)
  unfold intLit at q
  split at q
  · rename_i k t hkey
    exact ⟨k, by rw [hkey]; exact intKind_is prog w k t, of_decide_eq_true q⟩
  · exact absurd q (by simp)
theorem ix_kdictI : IxR X (rIxDI X.K) := by
  intro ve se pins s σ H x y v u Q I rx ry ⟨p, z, out, ex, ey, ⟨es, n, found, look, lits, at_z, rel⟩, q⟩ notSlice
  subst ex ey
  cases rx
  obtain ⟨tz, rfl⟩ := ry
  have map := mapOf_KI (prog := X.prog) (w := X.w) I.kIn look lits
  refine tail_any map.typeIs slot_dict_getitem.lookup (wpAny_getItem_of (intKind_is X.prog X.w z tz) map at_z ?_) notSlice
  exact ⟨out, H, I.tok _, rel, q⟩
/-! ### a call of a local name that is one of many defs -/
def tCallR (i : Nat) (R : Addr → Sp → Prop) (t : TA) : TE := fun σ H Q => ∃ f sp, σ[i]? = some (some (.ref f)) ∧ R f sp ∧ t σ H fun vs H1 => sp vs H1 Q (fun _ _ _ => False)
theorem pe_callRel {k i : Nat} {x : Str} {p pos : Pos} {e : Expr} {es : List Expr} {t : TA} {R : Addr → Sp → Prop} (A : ∀ f sp, R f sp → Held X.prog X.w X.K X.mg X.base k f sp) (hr : Room k X.A) (hN : X.N[i]? = some x) (hv : Vis X.env.scope x) (ha : PA X (e :: es) t)
    (nd : (x == ("__debug__" : Str)) = false := by decide) (nc : (x == ("__classdict__" : Str)) = false := by decide) (first : starEach (e :: es) X.env = (false, eval e X.env) :: starEach es X.env := by rfl) (rest : (backTo pos (starEach es X.env)).any (·.1) = false := by rfl) :
    PE X (.Call (.Name x p) (e :: es) [] pos) (tCallR i R t) := ⟨fun pins s σ H Q I ⟨f, sp, here, which, asks⟩ => by
  obtain ⟨fd, ps, F, kept, binds⟩ := (A f sp which).ex
  have call := pe_callL (X := X) (p := p) (pos := pos) (i := i) (f := f) (dvs := []) (sp := sp) (E := fun _ _ _ => False) F hr hN hv kept binds .nil (fun _ _ _ _ _ _ _ z => z.elim) ha nd nc first rest
  refine call.run pins s σ H Q I ⟨here, ?_⟩
  simp only [List.append_nil]
  exact asks⟩
end
end OvS
/-! The text, what its top leaves, how the objects lie in the heap; the small defs. -/
namespace Ov
open PySem PySem.Spec PyProof.Rows L2 LamX NdefX OvS
abbrev top (i : Nat) : Stmt := PySem.Challenge.pw_ovenbatches_s01_answers.main.body.getD i (.Pass ⟨0, 0, 0, 0⟩)
abbrev sIsCap : Stmt := top 12
abbrev sIsTemp : Stmt := top 13
abbrev sIsRange : Stmt := top 14
abbrev sIsTins : Stmt := top 15
abbrev sTotal : Stmt := top 17
abbrev sLeast : Stmt := top 18
abbrev sPInit : Stmt := inClass (top 20) 0
abbrev sOInit : Stmt := inClass (top 21) 0
abbrev sBaked : Stmt := top 23
abbrev sShared : Stmt := top 24
abbrev sAllT : Stmt := top 25
abbrev sOrder : Stmt := top 26
abbrev sFilled : Stmt := top 27
abbrev sNext : Stmt := top 28
abbrev sPlanned : Stmt := top 29
abbrev sIsList : Stmt := top 31
abbrev sBatchesIn : Stmt := top 32
abbrev sTogether : Stmt := top 33
abbrev sHold : Stmt := top 34
abbrev sIsSol : Stmt := top 35
/-! ### the heap -/
def nats (l : List Nat) : List V := l.map fun (x : Nat) => V.int (x : Int)
theorem nats_len (l : List Nat) : (nats l).length = l.length := List.length_map ..
theorem nats_at {l : List Nat} {i : Nat} (h : i < l.length) : (nats l)[i]? = some (.int ((l.getD i 0 : Nat) : Int)) := by
  unfold nats
  rw [List.getElem?_map, List.getD_eq_getElem?_getD, List.getElem?_eq_getElem h] <;> rfl
def pF (p : Sr99.Product) : List (Str × V) := [("min_temperature", .int (p.minTemperature : Int)), ("max_temperature", .int (p.maxTemperature : Int)), ("tins", .int (p.tins : Int))]
def ProdAt (C : Addr) (H : Hp) (a : Addr) (p : Sr99.Product) : Prop := ∃ dx, H a = some (.ins C dx (pF p))
structure ProdsAt (C : Addr) (H : Hp) (vs : List V) (ps : List Sr99.Product) : Prop where
  len : vs.length = ps.length
  at_ : ∀ (i : Nat) (p : Sr99.Product), ps[i]? = some p → ∃ a, vs[i]? = some (.ref a) ∧ ProdAt C H a p
def oF (o : Sr99.Oven) (l : Addr) : List (Str × V) := [("capacity", .int (o.capacity : Int)), ("products", .ref l)]
structure OvenAt (CP CO : Addr) (H : Hp) (a l : Addr) (o : Sr99.Oven) : Prop where
  ob : ∃ dx, H a = some (.ins CO dx (oF o l))
  ps : ∃ vs, H l = some (.lst vs) ∧ ProdsAt CP H vs o.products
theorem lk_here {k : Str} {v : V} {r : List (Str × V)} : List.lookup k ((k, v) :: r) = some v := by
  have e : (k == k) = true := beq_self_eq_true k
  simp only [List.lookup, e]
theorem lk_past {k g : Str} {v : V} {r : List (Str × V)} (h : (k == g) = false) : List.lookup k ((g, v) :: r) = List.lookup k r := by
  simp only [List.lookup, h]
theorem put_here {f : Str} {v x : V} {r : List (Str × V)} : putF f v ((f, x) :: r) = (f, v) :: r := if_pos rfl
theorem put_past {f g : Str} {v x : V} {r : List (Str × V)} (h : ¬ g = f) : putF f v ((g, x) :: r) = (g, x) :: putF f v r := if_neg h
theorem pF_min (p : Sr99.Product) : (pF p).lookup ("min_temperature" : Str) = some (.int (p.minTemperature : Int)) := lk_here
theorem pF_max (p : Sr99.Product) : (pF p).lookup ("max_temperature" : Str) = some (.int (p.maxTemperature : Int)) := (lk_past (by decide +kernel)).trans lk_here
theorem pF_tins (p : Sr99.Product) : (pF p).lookup ("tins" : Str) = some (.int (p.tins : Int)) := (lk_past (by decide +kernel)).trans ((lk_past (by decide +kernel)).trans lk_here)
theorem oF_cap (o : Sr99.Oven) (l : Addr) : (oF o l).lookup ("capacity" : Str) = some (.int (o.capacity : Int)) := lk_here
theorem oF_ps (o : Sr99.Oven) (l : Addr) : (oF o l).lookup ("products" : Str) = some (.ref l) := (lk_past (by decide +kernel)).trans lk_here
theorem ProdAt.ext {C : Addr} {H H' : Hp} {a : Addr} {p : Sr99.Product} (h : ProdAt C H a p) (e : ExtN H H') : ProdAt C H' a p := by
  obtain ⟨dx, h⟩ := h
  exact ⟨dx, e _ _ h fun ps z => by cases z⟩
theorem ProdsAt.ext {C : Addr} {H H' : Hp} {vs : List V} {ps : List Sr99.Product} (h : ProdsAt C H vs ps) (e : ExtN H H') : ProdsAt C H' vs ps :=
  ⟨h.len, fun i p q => let ⟨a, h1, h2⟩ := h.at_ i p q; ⟨a, h1, h2.ext e⟩⟩
theorem ext_seq {K : PySem.W.Frag} {H H' : Hp} {a : Addr} {xs : List V} (e : ExtN H H') (h : SqL K H a xs) : SqL K H' a xs := by
  rcases h with (h | ⟨o, h⟩) | h
  · exact .inl (.inl (e _ _ h fun ps z => by cases z))
  · exact .inl (.inr ⟨o, e _ _ h fun ps z => by cases z⟩)
  · exact .inr h
theorem ext_upd {H : Hp} {p : Addr} {o : HO} (h : H p = none) : ExtN H (upd H p o) := fun b u e _ => (upd_ne (ne_of_none e h)).trans e
theorem tabs_upd {T : List (Addr × Str)} {H : Hp} {p : Addr} {o : HO} (t : Tabs T H) (h : H p = none) : Tabs T (upd H p o) := t.ext fun b u e => (upd_ne (ne_of_none e h)).trans e
/-! ### what the top has left -/
structure Txt (K : PySem.W.Frag) (mg : Str → Option Value) (CP CO CR : Addr) : Prop where
  clP : Cls K CP
  clO : Cls K CO
  clR : Cls K CR
  pMin : NoAttr K CP "min_temperature"
  pMax : NoAttr K CP "max_temperature"
  pTin : NoAttr K CP "tins"
  oCap : NoAttr K CO "capacity"
  oPs : NoAttr K CO "products"
  rIn : NoAttr K CR "instance"
  gP : mg "Product" = some (.ref CP)
  gO : mg "Oven" = some (.ref CO)
  gR : mg "Request" = some (.ref CR)
  cNo : ∃ t, mg "NO_INSTANCE" = some (.int (-11) t)
  cMi : ∃ t, mg "MISSING" = some (.int (-2) t)
  cOu : ∃ t, mg "OUT_OF_RANGE" = some (.int (-22) t)
  cTo : ∃ t, mg "TOO_MANY_PRODUCTS" = some (.int (-28) t)
  cLC : ∃ t, mg "LOWEST_CAPACITY" = some (.int 1 t)
  cHC : ∃ t, mg "HIGHEST_CAPACITY" = some (.int 20 t)
  cLT : ∃ t, mg "LOWEST_TEMPERATURE" = some (.int 0 t)
  cHT : ∃ t, mg "HIGHEST_TEMPERATURE" = some (.int 400 t)
  cFT : ∃ t, mg "FEWEST_TINS" = some (.int 0 t)
  cMT : ∃ t, mg "MOST_TINS" = some (.int 9 t)
  cMP : ∃ t, mg "MOST_PRODUCTS" = some (.int 6 t)
  cCr : ∃ t, mg "CREATE" = some (.int 0 t)
  cCB : ∃ t, mg "CHECK_BATCHES" = some (.int 15 t)
  len : mg "len" = none
  range : mg "range" = none
  sorted : mg "sorted" = none
  min : mg "min" = none
  sum : mg "sum" = none
  abs : mg "abs" = none
  list : mg "list" = none
/-- a constant of the module, an int -/
theorem pe_gi {X : Cx} {x : Str} {i : Int} {pos : Pos} (hg : Gl X x) (hm : ∃ t, X.mg x = some (.int i t)) (hd : (x == ("__debug__" : Str)) = false := by decide) : PE X (.Name x pos) (tC (.int i)) := by
  obtain ⟨t, e⟩ := hm
  exact pe_glob hg e ⟨t, rfl⟩ hd
section
variable {P : Program} {w : World} {K : PySem.W.Frag} {mg : Str → Option Value} {base : Heap} {CP CO CR : Addr}
/-! ### limits -/
def spIsCap : Sp := fun vs H Q _ => ∃ c : Int, vs = [.int c] ∧ Q (.bl (Sr99.isCapacity c)) H
def spIsRange : Sp := fun vs H Q _ => ∃ lo hi : Int, vs = [.int lo, .int hi] ∧ Q (.bl (Sr99.isRange lo hi)) H
def spIsTins : Sp := fun vs H Q _ => ∃ t : Int, vs = [.int t] ∧ Q (.bl (Sr99.isTinCount t)) H
theorem scIsCap : FnScope ["capacity"] ["capacity"] (defScope sIsCap) := ⟨rfl, rfl, rfl, by decide +kernel, rfl, by decide +kernel, by decide +kernel⟩
/-- two comparisons in a chain -/
theorem chain2 {x y z : Int} {Q : Bool → Prop} (h : Q (decide (x ≤ y) && decide (y ≤ z))) : if decide (x ≤ y) = true then Q (decide (y ≤ z)) else Q false := by
  refine ite2 (fun c => ?_) fun c => ?_
  · rw [c, Bool.true_and] at h
    exact h
  · rw [Bool.eq_false_iff.mpr c, Bool.false_and] at h
    exact h
theorem ok_isCap {f : Addr} {fd : FuncData} (F : Fun K "is_capacity" "is_capacity" sIsCap f fd) (T : Txt K mg CP CO CR) : FnOk P w K mg base CX0 1 f fd ["capacity"] spIsCap := by
  refine F.ok scIsCap (fun vs H Q E h => ?_) (fun cdv A outer s H vs Q E hr h => ⟨_, pss_one (ps_ret (pe_chain op_le op_le (pe_gi rfl T.cLC) (pv 0) (pe_gi rfl T.cHC))), ?_⟩)
  · obtain ⟨c, rfl, _⟩ := h
    rfl
  · obtain ⟨c, rfl, q⟩ := h
    refine ⟨_, rfl, _, _, rfl, rfl, _, rfl, ?_⟩
    refine ite2 (fun e => ⟨_, _, rfl, rfl, ?_⟩) fun e => ?_
    · have e2 : Sr99.isCapacity c = decide (c ≤ 20) := by
        show (decide (1 ≤ c) && decide (c ≤ 20)) = _
        rw [e, Bool.true_and]
      rw [e2] at q
      exact q
    · have e2 : Sr99.isCapacity c = false := by
        show (decide (1 ≤ c) && decide (c ≤ 20)) = _
        rw [Bool.eq_false_iff.mpr e, Bool.false_and]
      rw [e2] at q
      exact q
theorem scIsRange : FnScope ["min_temperature", "max_temperature"] ["min_temperature", "max_temperature"] (defScope sIsRange) := ⟨rfl, rfl, rfl, by decide +kernel, rfl, by decide +kernel, by decide +kernel⟩
theorem ok_isRange {f : Addr} {fd : FuncData} (F : Fun K "is_temperature_range" "is_temperature_range" sIsRange f fd) (T : Txt K mg CP CO CR) : FnOk P w K mg base CX0 1 f fd ["min_temperature", "max_temperature"] spIsRange := by
  refine F.ok scIsRange (fun vs H Q E h => ?_) (fun cdv A outer s H vs Q E hr h => ⟨_, pss_one (ps_ret (pe_chain3 op_le op_le op_le (pe_gi rfl T.cLT) (pv 0) (pv 1) (pe_gi rfl T.cHT))), ?_⟩)
  · obtain ⟨lo, hi, rfl, _⟩ := h
    rfl
  · obtain ⟨lo, hi, rfl, q⟩ := h
    have e0 : Sr99.isRange lo hi = (decide (0 ≤ lo) && (decide (lo ≤ hi) && decide (hi ≤ 400))) := rfl
    refine ⟨_, rfl, _, _, rfl, rfl, _, rfl, ?_⟩
    refine ite2 (fun e => ⟨_, rfl, _, _, rfl, rfl, _, rfl, ?_⟩) fun e => ?_
    · refine ite2 (fun e' => ⟨_, _, rfl, rfl, ?_⟩) fun e' => ?_
      · rw [e, e', Bool.true_and, Bool.true_and] at e0
        rw [e0] at q
        exact q
      · rw [e, Bool.eq_false_iff.mpr e', Bool.false_and, Bool.and_false] at e0
        rw [e0] at q
        exact q
    · rw [Bool.eq_false_iff.mpr e, Bool.false_and] at e0
      rw [e0] at q
      exact q
theorem scIsTins : FnScope ["tins"] ["tins"] (defScope sIsTins) := ⟨rfl, rfl, rfl, by decide +kernel, rfl, by decide +kernel, by decide +kernel⟩
theorem ok_isTins {f : Addr} {fd : FuncData} (F : Fun K "is_number_of_tins" "is_number_of_tins" sIsTins f fd) (T : Txt K mg CP CO CR) : FnOk P w K mg base CX0 1 f fd ["tins"] spIsTins := by
  refine F.ok scIsTins (fun vs H Q E h => ?_) (fun cdv A outer s H vs Q E hr h => ⟨_, pss_one (ps_ret (pe_chain op_le op_le (pe_gi rfl T.cFT) (pv 0) (pe_gi rfl T.cMT))), ?_⟩)
  · obtain ⟨c, rfl, _⟩ := h
    rfl
  · obtain ⟨c, rfl, q⟩ := h
    have e0 : Sr99.isTinCount c = (decide (0 ≤ c) && decide (c ≤ 9)) := rfl
    refine ⟨_, rfl, _, _, rfl, rfl, _, rfl, ?_⟩
    refine ite2 (fun e => ⟨_, _, rfl, rfl, ?_⟩) fun e => ?_
    · rw [e, Bool.true_and] at e0
      rw [e0] at q
      exact q
    · rw [Bool.eq_false_iff.mpr e, Bool.false_and] at e0
      rw [e0] at q
      exact q
def spIsTemp : Sp := fun vs H Q _ => ∃ t : Int, vs = [.int t] ∧ Q (.bl (Sr99.isTemperature t)) H
theorem scIsTemp : FnScope ["temperature"] ["temperature"] (defScope sIsTemp) := ⟨rfl, rfl, rfl, by decide +kernel, rfl, by decide +kernel, by decide +kernel⟩
theorem ok_isTemp {f : Addr} {fd : FuncData} (F : Fun K "is_temperature" "is_temperature" sIsTemp f fd) (T : Txt K mg CP CO CR) : FnOk P w K mg base CX0 1 f fd ["temperature"] spIsTemp := by
  refine F.ok scIsTemp (fun vs H Q E h => ?_) (fun cdv A outer s H vs Q E hr h => ⟨_, pss_one (ps_ret (pe_chain op_le op_le (pe_gi rfl T.cLT) (pv 0) (pe_gi rfl T.cHT))), ?_⟩)
  · obtain ⟨c, rfl, _⟩ := h
    rfl
  · obtain ⟨c, rfl, q⟩ := h
    have e0 : Sr99.isTemperature c = (decide (0 ≤ c) && decide (c ≤ 400)) := rfl
    refine ⟨_, rfl, _, _, rfl, rfl, _, rfl, ?_⟩
    refine ite2 (fun e => ⟨_, _, rfl, rfl, ?_⟩) fun e => ?_
    · rw [e, Bool.true_and] at e0
      rw [e0] at q
      exact q
    · rw [Bool.eq_false_iff.mpr e, Bool.false_and] at e0
      rw [e0] at q
      exact q
/-! ### Product, Oven: __init__ -/
def spPInit (C : Addr) : Sp := fun vs H Q _ => ∃ (p dx : Addr) (a b c : Int), vs = [.ref p, .int a, .int b, .int c] ∧ H p = some (.ins C dx []) ∧
  ∀ H' : Hp, H' p = some (.ins C dx [("min_temperature", .int a), ("max_temperature", .int b), ("tins", .int c)]) → (∀ b, b ≠ p → H' b = H b) → Q .non H'
theorem scPInit : FnScope ["self", "min_temperature", "max_temperature", "tins"] ["self", "min_temperature", "max_temperature", "tins"] (defScope sPInit) := ⟨rfl, rfl, rfl, by decide +kernel, rfl, by decide +kernel, by decide +kernel⟩
theorem ok_pInit {f : Addr} {fd : FuncData} (F : Fun K "__init__" "Product.__init__" sPInit f fd) (T : Txt K mg CP CO CR) : FnOk P w K mg base CX0 1 f fd ["self", "min_temperature", "max_temperature", "tins"] (spPInit CP) := by
  refine F.ok scPInit (fun vs H Q E h => ?_) (fun cdv A outer s H vs Q E hr h => ⟨_, pss_cons (ps_fld (pv 0) (pv 1) rfl) (pss_cons (ps_fld (pv 0) (pv 2) rfl) (pss_one (ps_fld (pv 0) (pv 3) rfl))), ?_⟩)
  · obtain ⟨p, dx, a, b, c, rfl, _⟩ := h
    rfl
  · obtain ⟨p, dx, a, b, c, rfl, hp, k⟩ := h
    refine ⟨_, rfl, _, rfl, p, CP, dx, [], rfl, hp, T.clP, T.pMin, (by show 0 < 1000; decide), ?_⟩
    refine ⟨_, rfl, _, rfl, p, CP, dx, _, rfl, upd_same, T.clP, T.pMax, (by show 1 < 1000; decide), ?_⟩
    refine ⟨_, rfl, _, rfl, p, CP, dx, _, rfl, upd_same, T.clP, T.pTin, (by show 2 < 1000; decide), ?_⟩
    refine k _ (Eq.trans upd_same (congrArg (fun q => some (HO.ins CP dx q)) ?_)) fun b hb => by
      rw [upd_ne hb, upd_ne hb, upd_ne hb]
    exact (put_past (by decide +kernel)).trans (congrArg _ (put_past (by decide +kernel)))
def spOInit (C : Addr) : Sp := fun vs H Q _ => ∃ (p dx : Addr) (c : Int), vs = [.ref p, .int c] ∧ H p = some (.ins C dx []) ∧
  ∀ (H' : Hp) (l : Addr), H l = none → H' p = some (.ins C dx [("capacity", .int c), ("products", .ref l)]) → H' l = some (.lst []) → (∀ b o, H b = some o → b ≠ p → H' b = some o) → Q .non H'
theorem scOInit : FnScope ["self", "capacity"] ["self", "capacity"] (defScope sOInit) := ⟨rfl, rfl, rfl, by decide +kernel, rfl, by decide +kernel, by decide +kernel⟩
theorem ok_oInit {f : Addr} {fd : FuncData} (F : Fun K "__init__" "Oven.__init__" sOInit f fd) (T : Txt K mg CP CO CR) : FnOk P w K mg base CX0 1 f fd ["self", "capacity"] (spOInit CO) := by
  refine F.ok scOInit (fun vs H Q E h => ?_) (fun cdv A outer s H vs Q E hr h => ⟨_, pss_cons (ps_fld (pv 0) (pv 1) rfl) (pss_one (ps_fld (pv 0) (pe_lst pa_nil) rfl)), ?_⟩)
  · obtain ⟨p, dx, c, rfl, _⟩ := h
    rfl
  · obtain ⟨p, dx, c, rfl, hp, k⟩ := h
    refine ⟨_, rfl, _, rfl, p, CO, dx, [], rfl, hp, T.clO, T.oCap, (by show 0 < 1000; decide), ?_⟩
    refine ⟨(by show 0 ≤ sizeLine; decide), fun l hl => ?_⟩
    have npl : p ≠ l := fun z => by
      rw [← z, upd_same] at hl
      cases hl
    have nl : H l = none := (upd_ne (Ne.symm npl)).symm.trans hl
    refine ⟨_, rfl, p, CO, dx, _, rfl, (upd_ne npl).trans upd_same, T.clO, T.oPs, (by show 1 < 1000; decide), ?_⟩
    refine k _ l nl (Eq.trans upd_same (congrArg (fun q => some (HO.ins CO dx q)) ?_)) ((upd_ne (Ne.symm npl)).trans upd_same) fun b o e hb => ?_
    · exact put_past (by decide +kernel)
    · rw [upd_ne hb, upd_ne (ne_of_none e nl), upd_ne hb]
      exact e
/-! ### plan: can_be_baked -/
def spBaked (C : Addr) : Sp := fun vs H Q _ => ∃ (a : Addr) (p : Sr99.Product) (t : Int), vs = [.ref a, .int t] ∧ ProdAt C H a p ∧ Q (.bl (decide ((p.minTemperature : Int) ≤ t) && decide (t ≤ (p.maxTemperature : Int)))) H
theorem scBaked : FnScope ["product", "temperature"] ["product", "temperature"] (defScope sBaked) := ⟨rfl, rfl, rfl, by decide +kernel, rfl, by decide +kernel, by decide +kernel⟩
theorem ok_baked {f : Addr} {fd : FuncData} (F : Fun K "can_be_baked" "can_be_baked" sBaked f fd) (T : Txt K mg CP CO CR) : FnOk P w K mg base CX0 1 f fd ["product", "temperature"] (spBaked CP) := by
  refine F.ok scBaked (fun vs H Q E h => ?_) (fun cdv A outer s H vs Q E hr h => ⟨_, pss_one (ps_ret (pe_chain op_le op_le (pe_fld (pv 0) rfl) (pv 1) (pe_fld (pv 0) rfl))), ?_⟩)
  · obtain ⟨a, p, t, rfl, _⟩ := h
    rfl
  · obtain ⟨a, p, t, rfl, ⟨dx, ha⟩, q⟩ := h
    refine ⟨_, rfl, a, CP, dx, _, _, rfl, ha, T.clP, T.pMin, pF_min p, _, rfl, _, _, rfl, rfl, _, rfl, ?_⟩
    refine ite2 (fun e => ?_) fun e => ?_
    · refine ⟨_, rfl, a, CP, dx, _, _, rfl, ha, T.clP, T.pMax, pF_max p, _, _, rfl, rfl, ?_⟩
      rw [e, Bool.true_and] at q
      exact q
    · rw [Bool.eq_false_iff.mpr e, Bool.false_and] at q
      exact q
/-! ### plan: have_a_shared_temperature -/
def spShared (C : Addr) : Sp := fun vs H Q _ => ∃ (a b : Addr) (p q : Sr99.Product), vs = [.ref a, .ref b] ∧ ProdAt C H a p ∧ ProdAt C H b q ∧ Q (.bl (decide ((p.minTemperature : Int) ≤ (q.maxTemperature : Int)) && decide ((q.minTemperature : Int) ≤ (p.maxTemperature : Int)))) H
theorem scShared : FnScope ["product", "other"] ["product", "other"] (defScope sShared) := ⟨rfl, rfl, rfl, by decide +kernel, rfl, by decide +kernel, by decide +kernel⟩
theorem ok_shared {f : Addr} {fd : FuncData} (F : Fun K "have_a_shared_temperature" "have_a_shared_temperature" sShared f fd) (T : Txt K mg CP CO CR) : FnOk P w K mg base CX0 1 f fd ["product", "other"] (spShared CP) := by
  refine F.ok scShared (fun vs H Q E h => ?_) (fun cdv A outer s H vs Q E hr h => ⟨_, pss_one (ps_ret (pe_and (pe_cmpR op_le (pe_fld (pv 0) rfl) (pe_fld (pv 1) rfl) (nomark _)) (pe_one (pe_cmpR op_le (pe_fld (pv 1) rfl) (pe_fld (pv 0) rfl) (nomark _))))), ?_⟩)
  · obtain ⟨a, b, p, q, rfl, _⟩ := h
    rfl
  · obtain ⟨a, b, p, q, rfl, ⟨dx, ha⟩, ⟨dy, hb⟩, k⟩ := h
    refine ⟨_, rfl, a, CP, dx, _, _, rfl, ha, T.clP, T.pMin, pF_min p, _, rfl, b, CP, dy, _, _, rfl, hb, T.clP, T.pMax, pF_max q, _, _, rfl, rfl, _, rfl, ?_⟩
    refine ite2 (fun e => ?_) fun e => ?_
    · refine ⟨_, rfl, b, CP, dy, _, _, rfl, hb, T.clP, T.pMin, pF_min q, _, rfl, a, CP, dx, _, _, rfl, ha, T.clP, T.pMax, pF_max p, _, _, rfl, rfl, ?_⟩
      rw [e, Bool.true_and] at k
      exact k
    · rw [Bool.eq_false_iff.mpr e, Bool.false_and] at k
      exact k
end
end Ov
/-! filling_order -/
namespace Ov
open PySem PySem.Spec PyProof.Rows L2 LamX NdefX OvS Ovb
/-- a def of the text whose code object is at c -/
structure FunC (K : PySem.W.Frag) (x qual : Str) (st : Stmt) (f c : Addr) (fd : FuncData) : Prop where
  ex : ∃ (oc : Value) (od : Option Addr) (kV doc pm : Value) (an : Option Addr) (ct : Value) (osl : Array (Option Value)),
    fd = PySem.W.fnOf x qual (defArgs st) (defBody st) (defScope st) .none kV doc pm an (.ref c) ct ∧ K.lookup f = some ⟨oc, od, .func fd, osl⟩ ∧ PySem.W.codeIn K (.ref c) qual = true
  kp : PySem.W.keepIn K (.ref f) = true
theorem FunC.to {K : PySem.W.Frag} {x qual : Str} {st : Stmt} {f c : Addr} {fd : FuncData} (F : FunC K x qual st f c fd) : Fun K x qual st f fd := by
  obtain ⟨oc, od, kV, doc, pm, an, ct, osl, h1, h2, h3⟩ := F.ex
  exact ⟨⟨oc, od, kV, doc, pm, an, _, ct, osl, h1, h2, h3⟩, F.kp⟩
theorem FunC.ok {P : Program} {w : World} {K : PySem.W.Frag} {mg : Str → Option Value} {base : Heap} {x qual : Str} {st : Stmt} {f c : Addr} {fd : FuncData} {N ps : List Str} {k : Nat} {sp : Sp} (F : FunC K x qual st f c fd) (S : FnScope N ps (defScope st)) (len : ∀ vs H Q E, sp vs H Q E → vs.length = ps.length)
    (hbody : ∀ (A : Around) (outer : List Env) (s : Shared) (H : Hp) (vs : List V) (Q : VK) (E : XK), Room k (A.deeper (envOfC qual (defScope st) s.heap.objs.size f (.ref c))) → sp vs H Q E →
      ∃ t, PSs (cxOf CX0 P w K mg base N qual (defScope st) f (.ref c) A outer s H E).nox (defBody st) t ∧ t { nx := fun _ H' => Q .non H', rt := Q } (start N vs) H) : FnOk P w K mg base CX0 (k + 1) f fd ps sp := by
  obtain ⟨oc, od, kV, doc, pm, an, ct, osl, rfl, lk, hcd⟩ := F.ex
  refine fn_of lk hcd S len fun A outer s H vs Q E hr hsp => ?_
  obtain ⟨t, h, q⟩ := hbody A outer s H vs Q E hr hsp
  exact ⟨t, h.nox, q⟩
theorem bef_of {o : Sr99.Oven} {is : List Nat} {n : Nat} (hp : is.Perm (List.range n)) (h : is.Pairwise (NotAfter fun i => ((Sr99.productAt o i).maxTemperature : Int))) : is.Pairwise (Bef o) := by
  have nd : is.Pairwise (· ≠ ·) := hp.nodup_iff.mpr List.nodup_range
  refine List.Pairwise.imp (fun {a b} ⟨h1, h2⟩ => ?_) (h.and nd)
  unfold NotAfter at h1
  dsimp only at h1
  unfold Bef
  omega
abbrev qLam : Str := "filling_order.<locals>.<lambda>"
abbrev TT (Pt : Addr) : List (Addr × Str) := [(Pt, qLam)]
theorem qLam_is : (("filling_order" : Str) ++ (".<locals>." : Str)) ++ ("<lambda>" : Str) = qLam := by decide +kernel
abbrev lamSc : Scope := { kind := .function, names := [("i", .local), ("products", .free)], isGenerator := false, isCoroutine := false }
theorem nd_order : ndefB (defScope sOrder) lamSc ["products"] = true := by decide +kernel
theorem ns_order : NScope ["i", "products"] ["i"] ["products"] lamSc := nscope_by (by decide +kernel)
/-- nothing but a table may stand there -/
def New (H : Hp) (p : Addr) : Prop := ∀ o, H p = some o → ∃ ps, o = .tbl ps
theorem New.of {H : Hp} {p : Addr} (h : H p = none) : New H p := fun o e => by
  rw [h] at e
  cases e
theorem New.back {H H' : Hp} {p : Addr} (e : ExtN H H') (h : New H' p) : New H p := fun o q => by
  by_cases t : ∃ ps, o = .tbl ps
  · exact t
  · exact h o (e p o q fun ps z => t ⟨ps, z⟩)
theorem New.ne {H : Hp} {p b : Addr} {o : HO} (h : New H p) (e : H b = some o) (t : ∀ ps, o ≠ .tbl ps) : b ≠ p := fun z => by
  rw [z] at e
  obtain ⟨ps, q⟩ := h o e
  exact t ps q
abbrev tKey (K : PySem.W.Frag) : TE := tTup (tCons (tFld K (tOp (rIxL K) (tVar 1) (tVar 0)) "max_temperature") (tCons (tVar 0) tNil))
def spOrder (C Pt : Addr) : Sp := fun vs H Q _ => ∃ (l : Addr) (xs : List V) (o : Sr99.Oven), vs = [.ref l] ∧ H l = some (.lst xs) ∧ ProdsAt C H xs o.products ∧ o.products.length ≤ 6 ∧ Tabs (TT Pt) H ∧
  ∀ (is : List Nat) (H' : Hp) (p : Addr), is.Perm (List.range o.products.length) → is.Pairwise (Bef o) → ExtN H H' → Tabs (TT Pt) H' → New H p → H' p = some (.lst (nats is)) → Q (.ref p) H'
theorem scOrder : FnScope ["products"] ["products"] (defScope sOrder) := ⟨rfl, rfl, rfl, by decide +kernel, rfl, by decide +kernel, by decide +kernel⟩
theorem ProdsAt.field {C : Addr} {H : Hp} {xs : List V} {o : Sr99.Oven} (h : ProdsAt C H xs o.products) {i : Nat} (hi : i < o.products.length) : ∃ a dx, xs[i]? = some (.ref a) ∧ H a = some (.ins C dx (pF (Sr99.productAt o i))) := by
  obtain ⟨a, h1, dx, h2⟩ := h.at_ i _ (at_get hi)
  exact ⟨a, dx, h1, h2⟩
section
variable {P : Program} {w : World} {K : PySem.W.Frag} {mg : Str → Option Value} {base : Heap} {CP CO CR : Addr}
theorem ok_order {f c Pt : Addr} {fd : FuncData} (F : FunC K "filling_order" "filling_order" sOrder f c fd) (T : Txt K mg CP CO CR) (TB : TabB base mg c Pt) : FnOk P w K mg base CX0 4 f fd ["products"] (spOrder CP Pt) := by
  refine F.ok scOrder (fun vs H Q E h => ?_) (fun A outer s H vs Q E hr h => ⟨_, pss_one (ps_ret (pe_sortLam (c := c) (P := Pt) (T := TT Pt) (k := 0) (N := ["i", "products"]) (fr := ["products"]) (js := [0]) (q := qLam) (ip := "i") (tb := tKey K) rfl rfl T.sorted
      (pe_callTy cr_range1 (by rfl) T.range PyProof.Rows.boot_range (pa_cons (pe_callB call_len_seq (by rfl) T.len PySem.boot_len (pa_cons (pv 0) pa_nil)) pa_nil)) TB rfl qLam_is (by simp) (by simp) rfl nd_order rfl ns_order
      (fun _ _ _ _ _ us hl => match us, hl with | [_], _ => rfl) hr
      (fun F' f' A' outer' s' H' hF hr' => by
        obtain ⟨n', q', p', b', sc', cl', c'⟩ := F'
        subst hF
        exact pe_tup (pa_cons (pe_fld (pe_ix ix_list (pv 1) (pv 0) (fun _ _ => rfl)) rfl) (pa_cons (pv 0) pa_nil))))), ?_⟩)
  · obtain ⟨l, xs, o, rfl, _⟩ := h
    rfl
  · obtain ⟨l, xs, o, rfl, hl, hps, hn, hT, k⟩ := h
    refine ⟨_, rfl, l, _, rfl, .inl (SqL.of hl), _, rfl, fun r hr => ?_⟩
    have e0 : ((xs.length : Nat) : Int) = (o.products.length : Int) := by rw [hps.len]
    refine ⟨r, o.products.length, fun i => ((Sr99.productAt o i).maxTemperature : Int), rfl, by rw [← e0]; exact upd_same, by omega, tabs_upd hT hr, fun H2 e2 i hi => ?_, fun is H2 p q1 q2 q3 q4 q5 => ?_⟩
    · have hps2 := (hps.ext (ext_upd (o := .rng 0 (o.products.length : Int)) hr)).ext (by rw [e0] at e2; exact e2)
      have hl2 : H2 l = some (.lst xs) := e2 l _ ((upd_ne (ne_of_none hl hr)).trans hl) fun ps z => by cases z
      obtain ⟨a, dx, h1, h2⟩ := hps2.field hi
      refine ⟨_, rfl, _, rfl, l, xs, (i : Int), .ref a, rfl, rfl, SqL.of hl2, atI_nat h1, a, CP, dx, _, _, rfl, h2, T.clP, T.pMax, pF_max _, _, rfl, (by show 2 ≤ sizeLine; decide), fun p hp => ⟨p, rfl, hp, rfl⟩⟩
    · have hx : ExtN H H2 := (ext_upd hr).trans q3
      refine k is _ p q1 (bef_of q1 q2) (hx.trans (ext_upd q5)) (tabs_upd q4 q5) ((New.of q5).back hx) upd_same
end
end Ov
/-! filled_batch -/
namespace Ov
open PySem PySem.Spec PyProof.Rows L2 LamX NdefX OvS Ovb
/-- a def of the module, ready to be called by its name -/
structure Def (P : Program) (w : World) (K : PySem.W.Frag) (mg : Str → Option Value) (base : Heap) (x : Str) (k : Nat) (ps : List Str) (sp : Sp) (f : Addr) (fd : FuncData) : Prop where
  at_ : mg x = some (.ref f)
  ok : FnOk P w K mg base CX0 k f fd ps sp
  kp : PySem.W.keepIn K (.ref f) = true
  bi : L2.Binds K fd ps []
theorem pe_def {X : Cx} {x : Str} {j k : Nat} {ps : List Str} {sp : Sp} {f : Addr} {fd : FuncData} {e : Expr} {es : List Expr} {t : TA} {p pos : Pos} (D : Def X.prog X.w X.K X.mg X.base x k ps sp f fd) (hr : Room j X.A) (hk : k ≤ j) (hg : Gl X x) (ha : PA X (e :: es) t)
    (hdb : (x == ("__debug__" : Str)) = false := by decide) (he : starEach (e :: es) X.env = (false, eval e X.env) :: starEach es X.env := by rfl) (hpl : (backTo pos (starEach es X.env)).any (·.1) = false := by rfl) :
    PE X (.Call (.Name x p) (e :: es) [] pos) (tCall sp [] E0 t) := pe_call D.ok (hr.mono hk) hg D.at_ D.kp D.bi .nil pass0 ha hdb he hpl
theorem nats_set (l : List Nat) (i v : Nat) : (nats l).set i (.int (v : Int)) = nats (l.set i v) := by
  unfold nats
  rw [List.map_set]
theorem ixN_nat {n i : Nat} (h : i < n) : ixN n (i : Int) = some i := by
  unfold ixN
  rw [if_pos (by omega), if_pos (by omega)]
  simp
theorem take_more {α : Type} {l : List α} {i : Nat} {x : α} (h : l[i]? = some x) : l.take (i + 1) = l.take i ++ [x] := by
  rw [List.take_add_one, h]
  rfl
theorem nats_get {l : List Nat} {i : Nat} {x : V} (h : (nats l)[i]? = some x) : ∃ v, l[i]? = some v ∧ x = .int (v : Int) := by
  unfold nats at h
  rw [List.getElem?_map] at h
  cases e : l[i]? with
  | none => rw [e] at h; cases h
  | some v => rw [e] at h; exact ⟨v, rfl, (Option.some.inj h).symm⟩
theorem baked_int (o : Sr99.Oven) (i T : Nat) : (decide (((Sr99.productAt o i).minTemperature : Int) ≤ (T : Int)) && decide ((T : Int) ≤ ((Sr99.productAt o i).maxTemperature : Int))) = isBaked o T i := by
  unfold isBaked
  congr 1 <;> (apply decide_eq_decide.mpr; omega)
theorem min_int (a b : Nat) : (if (b : Int) < (a : Int) then V.int (b : Int) else V.int (a : Int)) = V.int ((min a b : Nat) : Int) := by
  by_cases h : b < a
  · rw [if_pos (by omega), Nat.min_eq_right (by omega)]
  · rw [if_neg (by omega), Nat.min_eq_left (by omega)]
theorem turn_len (o : Sr99.Oven) (rem : List Nat) (T : Nat) : ∀ (l : List Nat) (s : Nat × List Nat), (l.foldl (turn o rem T) s).2.length = s.2.length
  | [], _ => rfl
  | i :: r, s => by
    rw [List.foldl_cons, turn_len o rem T r]
    unfold turn
    split
    · exact List.length_set ..
    · rfl
theorem zeros_rep (n : Nat) : (List.replicate n [V.int 0]).flatten = nats (List.replicate n 0) := by
  unfold nats
  rw [List.map_replicate, ← List.replicate_one, List.flatten_replicate_replicate, Nat.mul_one]
  rfl
def spFilled (CP Pt : Addr) : Sp := fun vs H Q _ => ∃ (l r : Addr) (xs : List V) (o : Sr99.Oven) (rem : List Nat) (T : Nat), vs = [.ref l, .ref r, .int (o.capacity : Int), .int (T : Int)] ∧ H l = some (.lst xs) ∧ ProdsAt CP H xs o.products ∧ o.products.length ≤ 6 ∧
  H r = some (.lst (nats rem)) ∧ rem.length = o.products.length ∧ Tabs (TT Pt) H ∧ ∀ (H' : Hp) (p : Addr), ExtN H H' → Tabs (TT Pt) H' → New H p → H' p = some (.lst (nats (Sr99.fill o rem T))) → Q (.ref p) H'
theorem scFilled : FnScope ["products", "remaining", "capacity", "temperature", "tins", "room", "i"] ["products", "remaining", "capacity", "temperature"] (defScope sFilled) := ⟨rfl, rfl, rfl, by decide +kernel, rfl, by decide +kernel, by decide +kernel⟩
section
variable {P : Program} {w : World} {K : PySem.W.Frag} {mg : Str → Option Value} {base : Heap} {CP CO CR : Addr}
theorem ok_filled {f fo fb Pt : Addr} {fd fdo fdb : FuncData} (F : Fun K "filled_batch" "filled_batch" sFilled f fd) (T : Txt K mg CP CO CR) (DO : Def P w K mg base "filling_order" 4 ["products"] (spOrder CP Pt) fo fdo)
    (DB : Def P w K mg base "can_be_baked" 1 ["product", "temperature"] (spBaked CP) fb fdb) : FnOk P w K mg base CX0 5 f fd ["products", "remaining", "capacity", "temperature"] (spFilled CP Pt) := by
  refine F.ok scFilled (fun vs H Q E h => ?_) (fun cdv A outer s H vs Q E hr h => ⟨_, pss_cons (ps_set (i := 4) scFilled.nd rfl (Or.inl rfl) (pe_op op_rep (pe_lst (pa_cons pe_int pa_nil)) (pe_callB call_len_seq (by rfl) T.len PySem.boot_len (pa_cons (pv 0) pa_nil))))
      (pss_cons (ps_set (i := 5) scFilled.nd rfl (Or.inl rfl) (pv 2))
      (pss_cons (ps_for PassesOwn.never rfl (pi_list (pe_def DO hr (Nat.le_refl _) rfl (pa_cons (pv 0) pa_nil))) (pg_name (i := 6) scFilled.nd rfl (Or.inl rfl))
        (pss_one (ps_if (pt_val (pe_def DB hr (by decide) rfl (pa_cons (pe_ix ix_list (pv 0) (pv 6) (fun _ _ => rfl)) (pa_cons (pv 3) pa_nil))))
          (pss_cons (ps_asg (pe_callB (call_min2 rfl) (by rfl) T.min PyProof.Rows.boot_min (pa_cons (pe_ix ix_list (pv 1) (pv 6) (fun _ _ => rfl)) (pa_cons (pv 5) pa_nil))) (pg_sub (pv 4) (pv 6) set_list))
            (pss_one (ps_set (i := 5) scFilled.nd rfl (Or.inl rfl) (pe_op op_sub (pv 5) (pe_ix ix_list (pv 4) (pv 6) (fun _ _ => rfl)))))) pss_nil)))
      (pss_one (ps_ret (pv 4))))), ?_⟩)
  · obtain ⟨l, r, xs, o, rem, T, rfl, _⟩ := h
    rfl
  · obtain ⟨l, r, xs, o, rem, Te, rfl, hl, hps, hn, hrem, hrl, hT, k⟩ := h
    -- tins = [0] * len(products)
    refine ⟨(by show 1 ≤ sizeLine; decide), fun l0 hl0 => ?_⟩
    refine ⟨_, rfl, l, _, rfl, .inl (SqL.of ((upd_ne (ne_of_none hl hl0)).trans hl)), l0, _, _, rfl, rfl, upd_same, by omega, by rw [hps.len]; omega, by rw [hps.len]; show 1 * _ ≤ sizeLine; rw [sizeLine_eq]; omega, fun tl htl => ?_⟩
    have e1 : ExtN H (upd H l0 (.lst [.int 0])) := ext_upd hl0
    have e2 : ExtN H (upd (upd H l0 (.lst [.int 0])) tl (.lst (List.replicate ((xs.length : Nat) : Int).toNat [V.int 0]).flatten)) := e1.trans (ext_upd htl)
    have n2 : New H tl := (New.of htl).back e1
    have T2 : Tabs (TT Pt) (upd (upd H l0 (.lst [.int 0])) tl (.lst (List.replicate ((xs.length : Nat) : Int).toNat [V.int 0]).flatten)) := tabs_upd (tabs_upd hT hl0) htl
    have at2 : upd (upd H l0 (.lst [.int 0])) tl (.lst (List.replicate ((xs.length : Nat) : Int).toNat [V.int 0]).flatten) tl = some (.lst (nats (List.replicate o.products.length 0))) := by
      rw [upd_same, hps.len, Int.toNat_natCast, zeros_rep]
    generalize upd (upd H l0 (.lst [.int 0])) tl (.lst (List.replicate ((xs.length : Nat) : Int).toNat [V.int 0]).flatten) = H2 at e2 T2 at2
    -- room = capacity
    refine ⟨_, rfl, ?_⟩
    -- for i in filling_order(products)
    refine ⟨_, rfl, l, xs, o, rfl, e2 l _ hl (fun ps z => by cases z), hps.ext e2, hn, T2, fun is H3 q q1 q2 e3 T3 n3 hq => ?_⟩
    have e13 := e2.trans e3
    have at3 : H3 tl = some (.lst (nats (List.replicate o.products.length 0))) := e3 tl _ at2 fun ps z => by cases z
    have nqt : q ≠ tl := Ne.symm (n3.ne at2 fun ps z => by cases z)
    refine ⟨q, rfl, ⟨_, SqL.of hq⟩, for_list (K := K) (a := q) (xs := nats is) (fun j σ H' => ∃ v, σ = [some (.ref l), some (.ref r), some (.int (o.capacity : Int)), some (.int (Te : Int)), some (.ref tl), some (.int (((is.take j).foldl (turn o rem Te) (o.capacity, List.replicate o.products.length 0)).1 : Int)), v] ∧
      H' tl = some (.lst (nats ((is.take j).foldl (turn o rem Te) (o.capacity, List.replicate o.products.length 0)).2)) ∧ ExtN H H' ∧ Tabs (TT Pt) H' ∧ H' q = some (.lst (nats is)))
      ⟨none, rfl, at3, e13, T3, hq⟩ (fun j σ H' _ ⟨_, _, _, _, _, z⟩ => SqL.of z) (fun j y σ H' hj hP => ?_) (fun σ H' hP => ?_)⟩
    · obtain ⟨v, rfl, ht, eH, TH, hqH⟩ := hP
      obtain ⟨i, hi, rfl⟩ := nats_get hj
      have hin : i < o.products.length := List.mem_range.mp (q1.mem_iff.mp (List.mem_of_getElem? hi))
      have step : is.take (j + 1) = is.take j ++ [i] := take_more hi
      have hst : (is.take (j + 1)).foldl (turn o rem Te) (o.capacity, List.replicate o.products.length 0) = turn o rem Te ((is.take j).foldl (turn o rem Te) (o.capacity, List.replicate o.products.length 0)) i := by
        rw [step, List.foldl_append]
        rfl
      have hlen : ((is.take j).foldl (turn o rem Te) (o.capacity, List.replicate o.products.length 0)).2.length = o.products.length := by
        rw [turn_len, List.length_replicate]
      rw [hst]
      generalize (is.take j).foldl (turn o rem Te) (o.capacity, List.replicate o.products.length 0) = st at ht hlen
      obtain ⟨room, tins⟩ := st
      dsimp only at ht hlen ⊢
      have hps' := hps.ext eH
      obtain ⟨a, dx, h1, h2⟩ := hps'.field hin
      have hl' : H' l = some (.lst xs) := eH l _ hl fun ps z => by cases z
      have hr' : H' r = some (.lst (nats rem)) := eH r _ hrem fun ps z => by cases z
      refine ⟨_, rfl, _, rfl, l, xs, (i : Int), _, rfl, rfl, SqL.of hl', atI_nat h1, _, rfl, a, _, (Te : Int), rfl, ⟨dx, h2⟩, _, rfl, ?_⟩
      rw [baked_int]
      refine ite2 (fun c => ?_) fun c => ?_
      · have ht1 : turn o rem Te (room, tins) i = (room - min (rem.getD i 0) room, tins.set i (min (rem.getD i 0) room)) := if_pos c
        rw [ht1]
        refine ⟨_, rfl, _, rfl, r, nats rem, (i : Int), _, rfl, rfl, SqL.of hr', atI_nat (nats_at (by omega)), _, rfl, _, _, rfl, ?_⟩
        have hmin := min_int (rem.getD i 0) room
        refine ⟨_, rfl, _, rfl, tl, _, (i : Int), i, rfl, rfl, ht, ixN_nat (by rw [nats_len]; omega), ?_⟩
        have em : V.int (if (room : Int) < ((rem.getD i 0 : Nat) : Int) then (room : Int) else ((rem.getD i 0 : Nat) : Int)) = V.int ((min (rem.getD i 0) room : Nat) : Int) := by
          rw [← hmin]
          split <;> rfl
        rw [em, nats_set]
        have nt : New H tl := n2
        have eW : ExtN H (upd H' tl (.lst (nats (tins.set i (min (rem.getD i 0) room))))) := fun b u e t => by
          rw [upd_ne (nt.ne e t)]
          exact eH b u e t
        have TW : Tabs (TT Pt) (upd H' tl (.lst (nats (tins.set i (min (rem.getD i 0) room))))) := fun p hp => by
          obtain ⟨ps, a1, a2, a3⟩ := TH p hp
          refine ⟨ps, (upd_ne fun z => ?_).trans a1, a2, fun p' cv hc => ?_⟩
          · rw [z, ht] at a1
            cases a1
          · obtain ⟨c0, b1, b2⟩ := a3 p' cv hc
            refine ⟨c0, b1, (upd_ne fun z => ?_).trans b2⟩
            rw [z, ht] at b2
            cases b2
        refine ⟨_, rfl, _, rfl, _, rfl, tl, _, (i : Int), _, rfl, rfl, SqL.of upd_same, atI_nat (nats_at (by rw [List.length_set]; omega)), _, _, rfl, rfl, ?_⟩
        refine ⟨some (.int (i : Int)), ?_, upd_same, eW, TW, (upd_ne nqt).trans hqH⟩
        rw [getD_set_self (by omega)]
        have ez : (room : Int) - ((min (rem.getD i 0) room : Nat) : Int) = ((room - min (rem.getD i 0) room : Nat) : Int) := by omega
        show [some (V.ref l), some (V.ref r), some (V.int (o.capacity : Int)), some (V.int (Te : Int)), some (V.ref tl), some (V.int ((room : Int) - ((min (rem.getD i 0) room : Nat) : Int))), some (V.int (i : Int))] = _
        rw [ez]
      · have ht1 : turn o rem Te (room, tins) i = (room, tins) := if_neg c
        rw [ht1]
        exact ⟨some (.int (i : Int)), rfl, ht, eH, TH, hqH⟩
    · obtain ⟨v, rfl, ht, eH, TH, _⟩ := hP
      rw [nats_len, List.take_length] at ht
      refine ⟨_, rfl, k H' tl eH TH n2 ?_⟩
      rw [← poured_fill q1 q2 rem Te]
      exact ht
end
end Ov
/-! next_temperature -/
namespace Ov
open PySem PySem.Spec PyProof.Rows L2 LamX NdefX OvS Ovb
theorem nats_ints (l : List Nat) : (l.map fun (x : Nat) => (x : Int)).map V.int = nats l := by
  unfold nats
  rw [List.map_map]
  rfl
theorem same_ext {H H' : Hp} (s : Same H H') : ExtN H H' := fun b o e _ => s b o e
theorem same_upd {H H' : Hp} {p : Addr} {o : HO} (s : Same H H') (h : H p = none) : Same H (upd H' p o) := fun b u e => (upd_ne (ne_of_none e h)).trans (s b u e)
/-- the numbers that a comprehension with a test has kept so far -/
theorem kept_more {α : Type} (p : Nat → Bool) (g : Nat → α) (i : Nat) : ((List.range (i + 1)).filter p).map g = ((List.range i).filter p).map g ++ (if p i = true then [g i] else []) := by
  rw [List.range_succ, List.filter_append, List.map_append]
  congr 1
  by_cases h : p i = true
  · rw [if_pos h, List.filter_cons_of_pos h]
    rfl
  · rw [if_neg h, List.filter_cons_of_neg h]
    rfl
theorem kept_len {α : Type} (p : Nat → Bool) (g : Nat → α) (i : Nat) : (((List.range i).filter p).map g).length ≤ i := by
  rw [List.length_map]
  have := List.length_filter_le p (List.range i)
  rw [List.length_range] at this
  exact this
def spNext (CP : Addr) (T : List (Addr × Str)) : Sp := fun vs H Q _ => ∃ (l r : Addr) (xs : List V) (o : Sr99.Oven) (rem : List Nat), vs = [.ref l, .ref r] ∧ H l = some (.lst xs) ∧ ProdsAt CP H xs o.products ∧ o.products.length ≤ 6 ∧
  H r = some (.lst (nats rem)) ∧ rem.length = o.products.length ∧ (∃ i, i < o.products.length ∧ 0 < rem.getD i 0) ∧
  ∀ (H' : Hp) (i : Nat), Same H H' → i < o.products.length → 0 < rem.getD i 0 → (∀ j, j < o.products.length → 0 < rem.getD j 0 → (Sr99.productAt o i).maxTemperature ≤ (Sr99.productAt o j).maxTemperature) → Q (.int ((Sr99.productAt o i).maxTemperature : Int)) H'
theorem scNext : FnScope ["products", "remaining", "i"] ["products", "remaining"] (defScope sNext) := ⟨rfl, rfl, rfl, by decide +kernel, rfl, by decide +kernel, by decide +kernel⟩
section
variable {P : Program} {w : World} {K : PySem.W.Frag} {mg : Str → Option Value} {base : Heap} {CP CO CR : Addr}
theorem ok_next {f : Addr} {fd : FuncData} {Tb : List (Addr × Str)} (F : Fun K "next_temperature" "next_temperature" sNext f fd) (T : Txt K mg CP CO CR) : FnOk P w K mg base CX0 1 f fd ["products", "remaining"] (spNext CP Tb) := by
  refine F.ok scNext (fun vs H Q E h => ?_) (fun cdv A outer s H vs Q E hr h => ⟨_, pss_one (ps_ret (pe_callB (cr_min rfl) (by rfl) T.min PyProof.Rows.boot_min (pa_cons
      (pe_lc (own := [("i", 2)]) (g := gName 2) (tt := tTest (tOp (rI0 fun i j => .bl (decide (j < i))) (tOp (rIxL K) (tVar 1) (tVar 2)) (tC (.int 0)))) (te := tFld K (tOp (rIxL K) (tVar 0) (tVar 2)) "max_temperature") rfl scNext.nd
        (pi_range1 rfl T.range (pa_cons (pe_callB call_len_seq (by rfl) T.len PySem.boot_len (pa_cons (pv 0) pa_nil)) pa_nil))
        (blkOk_by (own := [("i", 2)]) (N := ["products", "remaining", "i"]) (sc := defScope sNext) (by decide +kernel)) (fun _ _ _ _ _ => pg_name (i := 2) scNext.nd rfl (Or.inl rfl))
        (fun _ _ _ _ _ => pts_one (pt_cmpR op_gt (pe_ix ix_list (pv 1) (pv 2) (fun _ _ => rfl)) pe_int (nomark _)))
        (fun _ _ _ _ _ => pe_fld (pe_ix ix_list (pv 0) (pv 2) (fun _ _ => rfl)) rfl)) pa_nil))), ?_⟩)
  · obtain ⟨l, r, xs, o, rem, rfl, _⟩ := h
    rfl
  · obtain ⟨l, r, xs, o, rem, rfl, hl, hps, hn, hr', hrl, hex, k⟩ := h
    refine ⟨_, rfl, l, _, rfl, .inl (SqL.of hl), _, rfl, by omega, by rw [hps.len]; omega, fun D hD => ?_⟩
    have en : ((xs.length : Nat) : Int).toNat = o.products.length := by rw [hps.len, Int.toNat_natCast]
    rw [en]
    refine lc_range (lo := 0) (n := o.products.length) (fun i H' => Same H H' ∧ H' D = some (.lst (((List.range i).filter fun j => decide (0 < rem.getD j 0)).map fun j => V.int ((Sr99.productAt o j).maxTemperature : Int)))) ⟨same_upd (Same.refl H) hD, upd_same⟩ (fun i H' hi ⟨sm, hd⟩ => ?_) (fun H' ⟨sm, hd⟩ => ?_)
    · have e0 : (0 : Int) + (i : Int) = (i : Int) := by omega
      rw [e0]
      refine ⟨rfl, _, rfl, _, rfl, r, nats rem, (i : Int), _, rfl, rfl, SqL.of (sm r _ hr'), atI_nat (nats_at (by omega)), _, _, rfl, rfl, _, rfl, ?_⟩
      have em := kept_more (fun j => decide (0 < rem.getD j 0)) (fun j => V.int ((Sr99.productAt o j).maxTemperature : Int)) i
      refine ite2 (fun c => ?_) fun c => ?_
      · have c' : 0 < rem.getD i 0 := by
          have := of_decide_eq_true c
          omega
        obtain ⟨a, dx, h1, h2⟩ := (hps.ext (same_ext sm)).field hi
        refine ⟨_, rfl, _, rfl, l, xs, (i : Int), _, rfl, rfl, SqL.of (sm l _ hl), atI_nat h1, a, CP, dx, _, _, rfl, h2, T.clP, T.pMax, pF_max _, _, hd, ?_, same_upd sm hD, ?_⟩
        · have := kept_len (fun j => decide (0 < rem.getD j 0)) (fun j => V.int ((Sr99.productAt o j).maxTemperature : Int)) i
          rw [sizeLine_eq]
          omega
        · rw [em, if_pos (decide_eq_true c')]
          exact upd_same
      · have c' : ¬ 0 < rem.getD i 0 := fun z => c (decide_eq_true (by omega))
        rw [em, if_neg (by rw [decide_eq_false c']; simp), List.append_nil]
        exact ⟨sm, hd⟩
    · have em : (((List.range o.products.length).filter fun j => decide (0 < rem.getD j 0)).map fun j => V.int ((Sr99.productAt o j).maxTemperature : Int)) = (((List.range o.products.length).filter fun j => decide (0 < rem.getD j 0)).map fun j => ((Sr99.productAt o j).maxTemperature : Int)).map V.int := by
        rw [List.map_map]
        rfl
      rw [em] at hd
      have hm : ∀ j, j ∈ (List.range o.products.length).filter (fun j => decide (0 < rem.getD j 0)) ↔ j < o.products.length ∧ 0 < rem.getD j 0 := fun j => by
        rw [List.mem_filter, List.mem_range, decide_eq_true_eq]
      refine ⟨D, _, rfl, SqL.of hd, ?_, fun m h1 h2 => ?_⟩
      · obtain ⟨i, hi⟩ := hex
        exact List.length_pos_of_mem (List.mem_map.mpr ⟨i, (hm i).mpr hi, rfl⟩)
      · obtain ⟨i, hi, rfl⟩ := List.mem_map.mp h1
        obtain ⟨i1, i2⟩ := (hm i).mp hi
        refine k H' i sm i1 i2 fun j j1 j2 => ?_
        have := h2 _ (List.mem_map.mpr ⟨j, (hm j).mpr ⟨j1, j2⟩, rfl⟩)
        omega
end
end Ov
/-! planned_batches -/
namespace Ov
open PySem PySem.Spec PyProof.Rows L2 LamX NdefX OvS Ovb
/-- a planned batch: a tuple of its temperature and a list of tins -/
def BatchAt (H : Hp) (v : V) (b : Sr99.Batch) : Prop := ∃ t q, v = .ref t ∧ H t = some (.tup [.int (b.temperature : Int), .ref q]) ∧ H q = some (.lst (nats b.tins))
structure BatchesAt (H : Hp) (vs : List V) (bs : List Sr99.Batch) : Prop where
  len : vs.length = bs.length
  at_ : ∀ (i : Nat) (b : Sr99.Batch), bs[i]? = some b → ∃ v, vs[i]? = some v ∧ BatchAt H v b
theorem BatchAt.ext {H H' : Hp} {v : V} {b : Sr99.Batch} (h : BatchAt H v b) (e : ExtN H H') : BatchAt H' v b := by
  obtain ⟨t, q, h1, h2, h3⟩ := h
  exact ⟨t, q, h1, e _ _ h2 fun ps z => (by cases z), e _ _ h3 fun ps z => (by cases z)⟩
theorem BatchesAt.nil {H : Hp} : BatchesAt H [] [] := ⟨rfl, fun i b e => by simp at e⟩
theorem BatchesAt.snoc {H : Hp} {vs : List V} {bs : List Sr99.Batch} {v : V} {b : Sr99.Batch} (h : BatchesAt H vs bs) (hv : BatchAt H v b) : BatchesAt H (vs ++ [v]) (bs ++ [b]) := by
  refine ⟨by rw [List.length_append, List.length_append, h.len]; rfl, fun i c e => ?_⟩
  by_cases hi : i < bs.length
  · rw [List.getElem?_append_left hi] at e
    rw [List.getElem?_append_left (by rw [h.len]; exact hi)]
    exact h.at_ i c e
  · have hi2 : i = bs.length := by
      have := (List.getElem?_eq_some_iff.mp e).1
      rw [List.length_append, List.length_singleton] at this
      omega
    subst hi2
    rw [List.getElem?_append_right (Nat.le_refl _), Nat.sub_self] at e
    cases e
    rw [← h.len, List.getElem?_append_right (Nat.le_refl _), Nat.sub_self]
    exact ⟨v, rfl, hv⟩
/-- kept where nothing but x is written, x not theirs -/
theorem BatchesAt.keep {H H' : Hp} {vs : List V} {bs : List Sr99.Batch} (h : BatchesAt H vs bs) (k : ∀ v b, BatchAt H v b → BatchAt H' v b) : BatchesAt H' vs bs := ⟨h.len, fun i b e => let ⟨v, h1, h2⟩ := h.at_ i b e; ⟨v, h1, k v b h2⟩⟩
def spPlanned (CP Pt : Addr) : Sp := fun vs H Q _ => ∃ (l : Addr) (xs : List V) (o : Sr99.Oven), vs = [.ref l, .int (o.capacity : Int)] ∧ H l = some (.lst xs) ∧ ProdsAt CP H xs o.products ∧ Wf o ∧ Tabs (TT Pt) H ∧
  ∀ (H' : Hp) (p : Addr) (ws : List V), ExtN H H' → Tabs (TT Pt) H' → New H p → H' p = some (.lst ws) → BatchesAt H' ws (Sr99.batches o) → (∀ (i : Nat) (t : Addr), ws[i]? = some (.ref t) → New H t) → Q (.ref p) H'
theorem scPlanned : FnScope ["products", "capacity", "batches", "remaining", "temperature", "tins", "i"] ["products", "capacity"] (defScope sPlanned) := ⟨rfl, rfl, rfl, by decide +kernel, rfl, by decide +kernel, by decide +kernel⟩
theorem tins_sum {o : Sr99.Oven} (w : Wf o) : SrCommon.sum (Sr99.allTins o) ≤ 54 := by
  have go : ∀ l : List Sr99.Product, (∀ p ∈ l, p.tins ≤ 9) → SrCommon.sum (l.map fun p => p.tins) ≤ 9 * l.length := by
    intro l
    induction l with
    | nil => intro _; exact Nat.le_refl _
    | cons p r ih =>
      intro h
      have h1 := h p (List.mem_cons_self ..)
      have h2 := ih fun q hq => h q (List.mem_cons_of_mem _ hq)
      rw [List.map_cons, sum_cons, List.length_cons]
      omega
  have h1 := go o.products fun p hp => (w.each p hp).2.2
  have h2 := w.few
  show SrCommon.sum (o.products.map fun p => p.tins) ≤ 54
  omega
section
variable {P : Program} {w : World} {K : PySem.W.Frag} {mg : Str → Option Value} {base : Heap} {CP CO CR : Addr}
theorem BatchesAt.write {H : Hp} {bl : Addr} {ws : List V} {bs : List Sr99.Batch} {o : HO} (h : BatchesAt H ws bs) (hb : H bl = some (.lst ws)) : BatchesAt (upd H bl o) ws bs := by
  refine ⟨h.len, fun i b e => ?_⟩
  obtain ⟨v, h1, t, q, rfl, h2, h3⟩ := h.at_ i b e
  refine ⟨_, h1, t, q, rfl, (upd_ne fun z => ?_).trans h2, (upd_ne fun z => ?_).trans h3⟩
  · rw [z, hb] at h2
    cases h2
  · rw [z, hb] at h3
    have e1 : ws = nats b.tins := by
      have := Option.some.inj h3
      injection this
    rw [e1] at h1
    obtain ⟨x, _, e2⟩ := nats_get h1
    cases e2
/-! ### all_tins -/
def spAllT (CP : Addr) : Sp := fun vs H Q _ => ∃ (l : Addr) (xs : List V) (o : Sr99.Oven), vs = [.ref l] ∧ H l = some (.lst xs) ∧ ProdsAt CP H xs o.products ∧ o.products.length ≤ 6 ∧
  ∀ (H' : Hp) (p : Addr), Same H H' → H p = none → H' p = some (.lst (nats (Sr99.allTins o))) → Q (.ref p) H'
theorem scAllT : FnScope ["products", "product"] ["products"] (defScope sAllT) := ⟨rfl, rfl, rfl, by decide +kernel, rfl, by decide +kernel, by decide +kernel⟩
theorem ok_allT {f : Addr} {fd : FuncData} (F : Fun K "all_tins" "all_tins" sAllT f fd) (T : Txt K mg CP CO CR) : FnOk P w K mg base CX0 1 f fd ["products"] (spAllT CP) := by
  refine F.ok scAllT (fun vs H Q E h => ?_) (fun cdv A outer s H vs Q E hr h => ⟨_, pss_one (ps_ret (pe_lc (own := [("product", 1)]) (g := gName 1) (tt := tYes) (te := tFld K (tVar 1) "tins") rfl scAllT.nd (pi_list (pv 0)) (blkOk_by (own := [("product", 1)]) (N := ["products", "product"]) (sc := defScope sAllT) (by decide +kernel))
        (fun _ _ _ _ _ => pg_name (i := 1) scAllT.nd rfl (Or.inl rfl)) (fun _ _ _ _ _ => pts_nil) (fun _ _ _ _ _ => pe_fld (pv 1) rfl))), ?_⟩)
  · obtain ⟨l, xs, o, rfl, _⟩ := h
    rfl
  · obtain ⟨l, xs, o, rfl, hl, hps, few, k⟩ := h
    refine ⟨_, rfl, l, rfl, ⟨xs, SqL.of hl⟩, fun r0 hr0 => lc_list (K := K) (a := l) (xs := xs) (fun i H' => Same H H' ∧ H' r0 = some (.lst (nats ((Sr99.allTins o).take i)))) ⟨same_upd (Same.refl H) hr0, upd_same⟩
      (fun i H' _ ⟨sm, _⟩ => SqL.of (sm l _ hl)) (fun i x H' hx ⟨sm, hd⟩ => ?_) (fun H' ⟨sm, hd⟩ => ?_)⟩
    · have hi : i < o.products.length := by
        have := (List.getElem?_eq_some_iff.mp hx).1
        rw [hps.len] at this
        exact this
      obtain ⟨a, dx, h1, h2⟩ := (hps.ext (same_ext sm)).field hi
      rw [hx] at h1
      cases h1
      refine ⟨rfl, _, rfl, a, CP, dx, _, _, rfl, h2, T.clP, T.pTin, pF_tins _, _, hd, ?_, same_upd sm hr0, ?_⟩
      · rw [nats_len, List.length_take, tins_len, sizeLine_eq]
        omega
      · have e2 : (Sr99.allTins o)[i]? = some (Sr99.productAt o i).tins := by
          show (o.products.map fun p => p.tins)[i]? = _
          rw [List.getElem?_map, at_get hi]
          rfl
        have e3 : nats ((Sr99.allTins o).take (i + 1)) = nats ((Sr99.allTins o).take i) ++ [.int ((Sr99.productAt o i).tins : Int)] := by
          rw [take_more e2]
          unfold nats
          rw [List.map_append]
          rfl
        rw [e3]
        exact upd_same
    · have hr0' : H' r0 = some (.lst (nats (Sr99.allTins o))) := by
        rw [hd, hps.len, ← tins_len, List.take_length]
      exact k H' r0 sm hr0 hr0'
theorem ok_planned {f fn ff fa Pt : Addr} {fd fdn fdf fda : FuncData} (F : Fun K "planned_batches" "planned_batches" sPlanned f fd) (T : Txt K mg CP CO CR) (DN : Def P w K mg base "next_temperature" 1 ["products", "remaining"] (spNext CP (TT Pt)) fn fdn)
    (DF : Def P w K mg base "filled_batch" 5 ["products", "remaining", "capacity", "temperature"] (spFilled CP Pt) ff fdf) (DA : Def P w K mg base "all_tins" 1 ["products"] (spAllT CP) fa fda) : FnOk P w K mg base CX0 6 f fd ["products", "capacity"] (spPlanned CP Pt) := by
  refine F.ok scPlanned (fun vs H Q E h => ?_) (fun cdv A outer s H vs Q E hr h => ⟨_, pss_cons (ps_set (i := 2) scPlanned.nd rfl (Or.inl rfl) (pe_lst pa_nil))
    (pss_cons (ps_set (i := 3) scPlanned.nd rfl (Or.inr rfl) (pe_def DA hr (by decide) rfl (pa_cons (pv 0) pa_nil)))
    (pss_cons (ps_while PassesOwn.never (pt_cmpR op_gt (pe_callB (cr_sum rfl) (by rfl) T.sum PyProof.Rows.boot_sum (pa_cons (pv 3) pa_nil)) pe_int (nomark _))
      (pss_cons (ps_set (i := 4) scPlanned.nd rfl (Or.inl rfl) (pe_def DN hr (by decide) rfl (pa_cons (pv 0) (pa_cons (pv 3) pa_nil))))
      (pss_cons (ps_set (i := 5) scPlanned.nd rfl (Or.inr rfl) (pe_def DF hr (by decide) rfl (pa_cons (pv 0) (pa_cons (pv 3) (pa_cons (pv 1) (pa_cons (pv 4) pa_nil))))))
      (pss_cons (ps_set (i := 3) scPlanned.nd rfl (Or.inr rfl) (pe_lc (own := [("i", 6)]) (g := gName 6) (tt := tYes) (te := tOp (rI0 fun i j => .int (i - j)) (tOp (rIxL K) (tVar 3) (tVar 6)) (tOp (rIxL K) (tVar 5) (tVar 6))) rfl scPlanned.nd
          (pi_range1 rfl T.range (pa_cons (pe_callB call_len_seq (by rfl) T.len PySem.boot_len (pa_cons (pv 0) pa_nil)) pa_nil))
          (blkOk_by (own := [("i", 6)]) (N := ["products", "capacity", "batches", "remaining", "temperature", "tins", "i"]) (sc := defScope sPlanned) (by decide +kernel))
          (fun _ _ _ _ _ => pg_name (i := 6) scPlanned.nd rfl (Or.inl rfl)) (fun _ _ _ _ _ => pts_nil) (fun _ _ _ _ _ => pe_op op_sub (pe_ix ix_list (pv 3) (pv 6) (fun _ _ => rfl)) (pe_ix ix_list (pv 5) (pv 6) (fun _ _ => rfl)))))
      (pss_one (ps_expr (pe_bm PySem.F.plainAttrs_list PySem.F.slot_list_append PySem.F.type_list_append mt_append (pv 2) (pa_cons (pe_tup (pa_cons (pv 4) (pa_cons (pv 5) pa_nil))) pa_nil))))))))
    (pss_one (ps_ret (pv 2))))), ?_⟩)
  · obtain ⟨l, xs, o, rfl, _⟩ := h
    rfl
  · obtain ⟨l, xs, o, rfl, hl, hps, hw, hT, k⟩ := h
    -- batches = []
    refine ⟨(by show 0 ≤ sizeLine; decide), fun bl hbl => ?_⟩
    have T1 : Tabs (TT Pt) (upd H bl (.lst [])) := tabs_upd hT hbl
    have S1 : Same H (upd H bl (.lst [])) := same_upd (Same.refl H) hbl
    have at1 : upd H bl (.lst []) bl = some (.lst []) := upd_same
    have nb : New H bl := New.of hbl
    generalize upd H bl (.lst []) = H1 at T1 S1 at1
    -- remaining = all_tins(products)
    refine ⟨_, rfl, l, xs, o, rfl, S1 l _ hl, hps.ext (same_ext S1), hw.few, fun H' r0 sm hr0 hr0' => ?_⟩
    · have S2 : Same H H' := S1.trans sm
      have T2 : Tabs (TT Pt) H' := T1.ext sm
      have at2 : H' bl = some (.lst []) := sm bl _ at1
      have nr : r0 ≠ bl := fun z => by
        rw [z] at hr0
        rw [hr0] at at1
        cases at1
      -- while sum(remaining) > 0
      refine ⟨fun m σ H' => ∃ (rem : List Nat) (bs : List Sr99.Batch) (fuel : Nat) (r : Addr) (ws : List V) (v4 v5 v6 : Option V), σ = [some (.ref l), some (.int (o.capacity : Int)), some (.ref bl), some (.ref r), v4, v5, v6] ∧ m = SrCommon.sum rem ∧
        H' bl = some (.lst ws) ∧ BatchesAt H' ws bs ∧ (∀ (i : Nat) (t : Addr), ws[i]? = some (.ref t) → New H t) ∧ H' r = some (.lst (nats rem)) ∧ r ≠ bl ∧ rem.length = o.products.length ∧ ExtN H H' ∧ Tabs (TT Pt) H' ∧
        SrCommon.sum rem ≤ fuel ∧ bs ++ Sr99.batchesFrom o fuel rem = Sr99.batches o ∧ bs.length + SrCommon.sum rem ≤ 54,
        ⟨_, Sr99.allTins o, [], SrCommon.sum (Sr99.allTins o), r0, [], none, none, none, rfl, rfl, at2, BatchesAt.nil, fun i t z => by simp at z, hr0', nr, tins_len o, same_ext S2, T2, Nat.le_refl _, rfl, by have := tins_sum hw; simpa using this⟩, ?_⟩
      rintro m σ H3 ⟨rem, bs, fuel, r, ws, v4, v5, v6, rfl, rfl, hb3, hB, hN, hr3, nr3, hrl, e3, T3, hfu, hall, h54⟩
      refine ⟨_, rfl, r, rem.map fun (x : Nat) => (x : Int), rfl, SqL.of (by rw [nats_ints]; exact hr3), _, _, rfl, rfl, _, rfl, ?_⟩
      rw [sum_int]
      refine ite2 (fun c => ?_) fun c => ?_
      · have hpos : 0 < SrCommon.sum rem := by
          have := of_decide_eq_true c
          omega
        obtain ⟨i0, fuel', i1, i2, i3, hst, hf2, hlt⟩ := from_step hw hrl hpos hfu
        refine ⟨fun σ' H' => ∃ m', m' < SrCommon.sum rem ∧ ∃ (rem : List Nat) (bs : List Sr99.Batch) (fuel : Nat) (r : Addr) (ws : List V) (v4 v5 v6 : Option V), σ' = [some (.ref l), some (.int (o.capacity : Int)), some (.ref bl), some (.ref r), v4, v5, v6] ∧ m' = SrCommon.sum rem ∧
          H' bl = some (.lst ws) ∧ BatchesAt H' ws bs ∧ (∀ (i : Nat) (t : Addr), ws[i]? = some (.ref t) → New H t) ∧ H' r = some (.lst (nats rem)) ∧ r ≠ bl ∧ rem.length = o.products.length ∧ ExtN H H' ∧ Tabs (TT Pt) H' ∧
          SrCommon.sum rem ≤ fuel ∧ bs ++ Sr99.batchesFrom o fuel rem = Sr99.batches o ∧ bs.length + SrCommon.sum rem ≤ 54, fun σ' H' z => z, ?_⟩
        have hl3 : H3 l = some (.lst xs) := e3 l _ hl fun ps z => by cases z
        -- temperature = next_temperature(products, remaining)
        refine ⟨_, rfl, _, rfl, l, r, xs, o, rem, rfl, hl3, hps.ext e3, hw.few, hr3, hrl, ⟨i0, i1, i2⟩, fun H4 i sm4 j1 j2 j3 => ?_⟩
        have eT : (Sr99.productAt o i).maxTemperature = (Sr99.productAt o i0).maxTemperature := Nat.le_antisymm (j3 i0 i1 i2) (i3 i j1 j2)
        rw [eT]
        have e4 : ExtN H H4 := e3.trans (same_ext sm4)
        -- tins = filled_batch(..)
        refine ⟨_, rfl, _, rfl, _, rfl, _, rfl, l, r, xs, o, rem, (Sr99.productAt o i0).maxTemperature, rfl, sm4 l _ hl3, hps.ext e4, hw.few, sm4 r _ hr3, hrl, T3.ext sm4, fun H5 tp e45 T5 n5 h5 => ?_⟩
        have e5 : ExtN H H5 := e4.trans e45
        have hl5 : H5 l = some (.lst xs) := e5 l _ hl fun ps z => by cases z
        have hr5 : H5 r = some (.lst (nats rem)) := e45 r _ (sm4 r _ hr3) fun ps z => by cases z
        have hb5 : H5 bl = some (.lst ws) := e45 bl _ (sm4 bl _ hb3) fun ps z => by cases z
        have hB5 : BatchesAt H5 ws bs := hB.keep fun v b z => (z.ext (same_ext sm4)).ext e45
        have hfl : (Sr99.fill o rem (Sr99.productAt o i0).maxTemperature).length = o.products.length := fill_len ..
        have hfle : ∀ j, (Sr99.fill o rem (Sr99.productAt o i0).maxTemperature).getD j 0 ≤ rem.getD j 0 := fun j => fill_le o rem _ j
        generalize hti : Sr99.fill o rem (Sr99.productAt o i0).maxTemperature = tins at h5 hfl hfle
        rw [hti] at hst hf2 hlt
        -- remaining = [remaining[i] - tins[i] for i in range(len(products))]
        have en : ((xs.length : Nat) : Int).toNat = o.products.length := by rw [hps.len, Int.toNat_natCast]
        refine ⟨_, rfl, l, _, rfl, .inl (SqL.of hl5), _, rfl, by omega, by have := hw.few; rw [hps.len]; omega, fun r2 hr2 => ?_⟩
        rw [en]
        have hsl : (Sr99.subtract rem tins).length = o.products.length := by rw [sub_len (by omega)]; exact hrl
        refine lc_range (lo := 0) (n := o.products.length) (fun j H' => Same H5 H' ∧ H' r2 = some (.lst (nats ((Sr99.subtract rem tins).take j)))) ⟨same_upd (Same.refl H5) hr2, upd_same⟩ (fun j H' hj ⟨sm, hd⟩ => ?_) (fun H6 ⟨sm, hd⟩ => ?_)
        · have e0 : (0 : Int) + (j : Int) = (j : Int) := by omega
          rw [e0]
          refine ⟨rfl, _, rfl, _, rfl, r, nats rem, (j : Int), _, rfl, rfl, SqL.of (sm r _ hr5), atI_nat (nats_at (by omega)), _, rfl, _, rfl, tp, nats tins, (j : Int), _, rfl, rfl, SqL.of (sm tp _ h5), atI_nat (nats_at (by omega)), _, _, rfl, rfl, _, hd, ?_, same_upd sm hr2, ?_⟩
          · rw [nats_len, List.length_take, hsl, sizeLine_eq]
            have := hw.few
            omega
          · have e2 : (Sr99.subtract rem tins)[j]? = some ((Sr99.subtract rem tins).getD j 0) := by
              rw [List.getD_eq_getElem?_getD, List.getElem?_eq_getElem (by omega)]
              rfl
            have e3' : nats ((Sr99.subtract rem tins).take (j + 1)) = nats ((Sr99.subtract rem tins).take j) ++ [.int (((rem.getD j 0 : Nat) : Int) - ((tins.getD j 0 : Nat) : Int))] := by
              rw [take_more e2, sub_getD (by omega)]
              unfold nats
              rw [List.map_append]
              have := hfle j
              have ez : ((rem.getD j 0 - tins.getD j 0 : Nat) : Int) = ((rem.getD j 0 : Nat) : Int) - ((tins.getD j 0 : Nat) : Int) := by omega
              rw [List.map_singleton, ez]
            rw [e3']
            exact upd_same
        · have hr6 : H6 r2 = some (.lst (nats (Sr99.subtract rem tins))) := by
            rw [hd, ← hsl, List.take_length]
          have e6 : ExtN H H6 := e5.trans (same_ext sm)
          have T6 : Tabs (TT Pt) H6 := T5.ext sm
          have hb6 : H6 bl = some (.lst ws) := sm bl _ hb5
          have nr6 : r2 ≠ bl := fun z => by
            rw [z, hb5] at hr2
            cases hr2
          -- batches.append((temperature, tins))
          refine ⟨_, rfl, .inl ⟨rfl, _, .inl (.inl hb6)⟩, _, rfl, _, rfl, (by show 2 ≤ sizeLine; decide), fun q hq => ?_⟩
          have hb7 : upd H6 q (.tup [.int ((Sr99.productAt o i0).maxTemperature : Int), .ref tp]) bl = some (.lst ws) := (upd_ne (ne_of_none hb6 hq)).trans hb6
          have e7 : ExtN H (upd H6 q (.tup [.int ((Sr99.productAt o i0).maxTemperature : Int), .ref tp])) := e6.trans (ext_upd hq)
          have T7 : Tabs (TT Pt) (upd H6 q (.tup [.int ((Sr99.productAt o i0).maxTemperature : Int), .ref tp])) := tabs_upd T6 hq
          have hB7 : BatchesAt (upd H6 q (.tup [.int ((Sr99.productAt o i0).maxTemperature : Int), .ref tp])) ws bs := hB5.keep fun v b z => (z.ext (same_ext sm)).ext (ext_upd hq)
          have at7 : upd H6 q (.tup [.int ((Sr99.productAt o i0).maxTemperature : Int), .ref tp]) q = some (.tup [.int ((Sr99.productAt o i0).maxTemperature : Int), .ref tp]) := upd_same
          have tp7 : upd H6 q (.tup [.int ((Sr99.productAt o i0).maxTemperature : Int), .ref tp]) tp = some (.lst (nats tins)) := (upd_ne (ne_of_none (sm tp _ h5) hq)).trans (sm tp _ h5)
          have r7 : upd H6 q (.tup [.int ((Sr99.productAt o i0).maxTemperature : Int), .ref tp]) r2 = some (.lst (nats (Sr99.subtract rem tins))) := (upd_ne (ne_of_none hr6 hq)).trans hr6
          have n7 : New H q := (New.of hq).back e6
          have ntp : tp ≠ bl := fun z => by
            have hn := n5.ne (sm4 bl _ hb3) (fun ps z => by cases z)
            exact hn z.symm
          generalize upd H6 q (.tup [.int ((Sr99.productAt o i0).maxTemperature : Int), .ref tp]) = H7 at hb7 e7 T7 hB7 at7 tp7 r7
          have hlen : ws.length ≤ 54 := by
            rw [hB.len]
            omega
          refine ⟨bl, ws, _, rfl, rfl, hb7, by rw [sizeLine_eq]; omega, ?_⟩
          have wr : ExtN H (upd H7 bl (.lst (ws ++ [.ref q]))) := fun b u e t => by
            rw [upd_ne (nb.ne e t)]
            exact e7 b u e t
          refine ⟨_, hlt, Sr99.subtract rem tins, bs ++ [⟨(Sr99.productAt o i0).maxTemperature, tins⟩], fuel', r2, ws ++ [.ref q], _, _, _, rfl, rfl, upd_same, (hB7.write hb7).snoc ⟨q, tp, rfl, (upd_ne fun z => ?_).trans at7, (upd_ne ntp).trans tp7⟩, fun i t z => ?_, (upd_ne nr6).trans r7, nr6, hsl, wr, ?_, hf2, ?_, ?_⟩
          · rw [z, hb7] at at7
            cases at7
          · by_cases hi : i < ws.length
            · rw [List.getElem?_append_left hi] at z
              exact hN i t z
            · have hi2 : i = ws.length := by
                have := (List.getElem?_eq_some_iff.mp z).1
                rw [List.length_append, List.length_singleton] at this
                omega
              subst hi2
              rw [List.getElem?_append_right (Nat.le_refl _), Nat.sub_self] at z
              cases z
              exact n7
          · intro p hp
            obtain ⟨ps, a1, a2, a3⟩ := T7 p hp
            refine ⟨ps, (upd_ne fun z => ?_).trans a1, a2, fun p' cv hc => ?_⟩
            · rw [z, hb7] at a1
              cases a1
            · obtain ⟨c0, b1, b2⟩ := a3 p' cv hc
              refine ⟨c0, b1, (upd_ne fun z => ?_).trans b2⟩
              rw [z, hb7] at b2
              cases b2
          · rw [List.append_assoc, ← hall, hst]
            rfl
          · rw [List.length_append, List.length_singleton]
            omega
      · have hz : SrCommon.sum rem = 0 := by
          by_cases h0 : 0 < SrCommon.sum rem
          · exact absurd (decide_eq_true (by omega)) c
          · omega
        rw [from_nil o hz, List.append_nil] at hall
        rw [hall] at hB
        exact ⟨_, rfl, k H3 bl ws e3 T3 nb hb3 hB hN⟩
end
end Ov
/-! the operations, one after another: what they share; has_product, batches_of, the queries -/
namespace Ov
open PySem PySem.Spec PyProof.Rows L2 LamX NdefX OvS Ovb
abbrev sHas : Stmt := top 37
abbrev sBatchesOf : Stmt := top 38
abbrev sPTemps : Stmt := top 39
abbrev sWith : Stmt := top 40
abbrev sAdd : Stmt := top 41
abbrev sSetTins : Stmt := top 42
abbrev sSetTemp : Stmt := top 43
abbrev sRemove : Stmt := top 44
abbrev sSetCap : Stmt := top 45
abbrev sMinB : Stmt := top 46
abbrev sBatch : Stmt := top 47
abbrev sTemps : Stmt := top 48
abbrev sBest : Stmt := top 49
abbrev sMinC : Stmt := top 50
abbrev sCompat : Stmt := top 51
abbrev sFillB : Stmt := top 52
abbrev sIfTins : Stmt := top 53
abbrev sIfCap : Stmt := top 54
abbrev sCheck : Stmt := top 55
abbrev sDescr : Stmt := top 56
/-- all that was tracked stands, but what lies at xs, and the tables -/
def Fr (xs : List Addr) (H H' : Hp) : Prop := ∀ b u, H b = some u → b ∉ xs → (∀ ps, u ≠ .tbl ps) → H' b = some u
theorem Fr.ext {xs : List Addr} {H H' : Hp} (e : ExtN H H') : Fr xs H H' := fun b u h _ t => e b u h t
theorem Fr.trans {xs : List Addr} {H H1 H2 : Hp} (a : Fr xs H H1) (b : Fr xs H1 H2) : Fr xs H H2 := fun c u h n t => b c u (a c u h n t) n t
theorem Fr.upd {xs : List Addr} {H : Hp} {p : Addr} {o : HO} (h : p ∈ xs) : Fr xs H (upd H p o) := fun b u e n _ => (upd_ne fun z => n (by rw [z]; exact h)).trans e
theorem tabs_put {T : List (Addr × Str)} {H : Hp} {p : Addr} {u o : HO} (t : Tabs T H) (h : H p = some u) (n1 : ∀ ps, u ≠ .tbl ps) (n2 : ∀ φ, u ≠ .ext φ) : Tabs T (upd H p o) := fun q hq => by
  obtain ⟨ps, a1, a2, a3⟩ := t q hq
  refine ⟨ps, (upd_ne fun z => ?_).trans a1, a2, fun p' cv hc => ?_⟩
  · rw [z, h] at a1
    exact n1 ps (Option.some.inj a1)
  · obtain ⟨c0, b1, b2⟩ := a3 p' cv hc
    refine ⟨c0, b1, (upd_ne fun z => ?_).trans b2⟩
    rw [z, h] at b2
    exact n2 _ (Option.some.inj b2)
theorem ProdsAt.keep {C : Addr} {H H' : Hp} {vs : List V} {ps : List Sr99.Product} (h : ProdsAt C H vs ps) (k : ∀ a p, ProdAt C H a p → ProdAt C H' a p) : ProdsAt C H' vs ps := ⟨h.len, fun i p e => let ⟨a, h1, h2⟩ := h.at_ i p e; ⟨a, h1, k a p h2⟩⟩
theorem OvenAt.ext {CP CO : Addr} {H H' : Hp} {a l : Addr} {o : Sr99.Oven} (h : OvenAt CP CO H a l o) (e : ExtN H H') : OvenAt CP CO H' a l o := by
  obtain ⟨⟨dx, h1⟩, vs, h2, h3⟩ := h
  exact ⟨⟨dx, e _ _ h1 fun ps z => (by cases z)⟩, vs, e _ _ h2 fun ps z => (by cases z), h3.ext e⟩
theorem OvenAt.ne {CP CO : Addr} {H : Hp} {a l : Addr} {o : Sr99.Oven} (h : OvenAt CP CO H a l o) : a ≠ l := by
  obtain ⟨⟨dx, h1⟩, vs, h2, _⟩ := h
  exact ne_of h1 h2 fun z => by cases z
/-- the answer of a call, as a list -/
def ansV (r : SrCommon.Result) : List V := (r.code :: r.values).map V.int
def spOp (K : PySem.W.Frag) (CP CO Pt : Addr) (R : List Int → Sr99.Call → Prop) : Sp := fun vs H Q _ => ∃ (a l nl : Addr) (o : Sr99.Oven) (ns : List Int) (c : Sr99.Call), vs = [.ref a, .ref nl] ∧ OvenAt CP CO H a l o ∧ Wf o ∧ SqL K H nl (ns.map V.int) ∧ R ns c ∧ Tabs (TT Pt) H ∧
  ∀ (H' : Hp) (p l' : Addr), H' p = some (.lst (ansV (Sr99.perform o c).2)) → OvenAt CP CO H' a l' ((Sr99.perform o c).1.getD o) → (l' = l ∨ New H l') → Fr [a, l] H H' → Tabs (TT Pt) H' → New H p → Q (.ref p) H'
theorem len_op {K : PySem.W.Frag} {CP CO Pt : Addr} {R : List Int → Sr99.Call → Prop} : ∀ vs H Q E, spOp K CP CO Pt R vs H Q E → vs.length = 2 := fun vs H Q E h => by
  obtain ⟨a, l, nl, o, ns, c, rfl, _⟩ := h
  rfl
/-- an answer in a new list, where nothing was changed -/
theorem op_same {CP CO Pt : Addr} {H : Hp} {a l p : Addr} {o : Sr99.Oven} {c : Sr99.Call} {Q : VK} (hO : OvenAt CP CO H a l o) (hT : Tabs (TT Pt) H) {r : SrCommon.Result} {xs : List V} (e : Sr99.perform o c = (none, r)) (ex : xs = ansV r) (hp : H p = none)
    (k : ∀ (H' : Hp) (p l' : Addr), H' p = some (.lst (ansV (Sr99.perform o c).2)) → OvenAt CP CO H' a l' ((Sr99.perform o c).1.getD o) → (l' = l ∨ New H l') → Fr [a, l] H H' → Tabs (TT Pt) H' → New H p → Q (.ref p) H') : Q (.ref p) (upd H p (.lst xs)) := by
  refine k _ p l ?_ ?_ (.inl rfl) (Fr.ext (ext_upd hp)) (tabs_upd hT hp) (New.of hp)
  · rw [e, ex]
    exact upd_same
  · rw [e]
    exact hO.ext (ext_upd hp)
section
variable {P : Program} {w : World} {K : PySem.W.Frag} {mg : Str → Option Value} {base : Heap} {CP CO CR : Addr}
/-- an operation's promise goes on from behind what keeps all -/
theorem op_on {CP CO Pt : Addr} {H H1 : Hp} {a l : Addr} {o : Sr99.Oven} {c : Sr99.Call} {Q : VK} (e : ExtN H H1)
    (k : ∀ (H' : Hp) (p l' : Addr), H' p = some (.lst (ansV (Sr99.perform o c).2)) → OvenAt CP CO H' a l' ((Sr99.perform o c).1.getD o) → (l' = l ∨ New H l') → Fr [a, l] H H' → Tabs (TT Pt) H' → New H p → Q (.ref p) H') :
    ∀ (H' : Hp) (p l' : Addr), H' p = some (.lst (ansV (Sr99.perform o c).2)) → OvenAt CP CO H' a l' ((Sr99.perform o c).1.getD o) → (l' = l ∨ New H1 l') → Fr [a, l] H1 H' → Tabs (TT Pt) H' → New H1 p → Q (.ref p) H' :=
  fun H' p l' h1 h2 h6 h3 h4 h5 => k H' p l' h1 h2 (h6.imp id fun z => z.back e) ((Fr.ext e).trans h3) h4 (h5.back e)
/-! ### has_product, batches_of -/
def spHas (CP CO : Addr) : Sp := fun vs H Q _ => ∃ (a l : Addr) (o : Sr99.Oven) (i : Int), vs = [.ref a, .int i] ∧ OvenAt CP CO H a l o ∧ Q (.bl (Sr99.isProduct o i)) H
theorem scHas : FnScope ["oven", "i"] ["oven", "i"] (defScope sHas) := ⟨rfl, rfl, rfl, by decide +kernel, rfl, by decide +kernel, by decide +kernel⟩
theorem ok_has {f : Addr} {fd : FuncData} (F : Fun K "has_product" "has_product" sHas f fd) (T : Txt K mg CP CO CR) : FnOk P w K mg base CX0 1 f fd ["oven", "i"] (spHas CP CO) := by
  refine F.ok scHas (fun vs H Q E h => ?_) (fun cdv A outer s H vs Q E hr h => ⟨_, pss_one (ps_ret (pe_chain op_le op_lt pe_int (pv 1) (pe_callB call_len_seq (by rfl) T.len PySem.boot_len (pa_cons (pe_fld (pv 0) rfl) pa_nil)))), ?_⟩)
  · obtain ⟨a, l, o, i, rfl, _⟩ := h
    rfl
  · obtain ⟨a, l, o, i, rfl, ⟨⟨dx, h1⟩, xs, h2, h3⟩, q⟩ := h
    have e0 : Sr99.isProduct o i = (decide (0 ≤ i) && decide (i < (o.products.length : Int))) := rfl
    refine ⟨_, rfl, _, _, rfl, rfl, _, rfl, ?_⟩
    refine ite2 (fun e => ?_) fun e => ?_
    · refine ⟨_, rfl, a, CO, dx, _, _, rfl, h1, T.clO, T.oPs, oF_ps o l, l, _, rfl, .inl (SqL.of h2), _, _, rfl, rfl, ?_⟩
      rw [e0, e, Bool.true_and, ← h3.len] at q
      exact q
    · rw [e0, Bool.eq_false_iff.mpr e, Bool.false_and] at q
      exact q
def spBatchesOf (CP CO Pt : Addr) : Sp := fun vs H Q _ => ∃ (a l : Addr) (o : Sr99.Oven), vs = [.ref a] ∧ OvenAt CP CO H a l o ∧ Wf o ∧ Tabs (TT Pt) H ∧
  ∀ (H' : Hp) (p : Addr) (ws : List V), ExtN H H' → Tabs (TT Pt) H' → New H p → H' p = some (.lst ws) → BatchesAt H' ws (Sr99.batches o) → Q (.ref p) H'
theorem scBatchesOf : FnScope ["oven"] ["oven"] (defScope sBatchesOf) := ⟨rfl, rfl, rfl, by decide +kernel, rfl, by decide +kernel, by decide +kernel⟩
theorem ok_batchesOf {f fp Pt : Addr} {fd fdp : FuncData} (F : Fun K "batches_of" "batches_of" sBatchesOf f fd) (T : Txt K mg CP CO CR) (DP : Def P w K mg base "planned_batches" 6 ["products", "capacity"] (spPlanned CP Pt) fp fdp) :
    FnOk P w K mg base CX0 7 f fd ["oven"] (spBatchesOf CP CO Pt) := by
  refine F.ok scBatchesOf (fun vs H Q E h => ?_) (fun cdv A outer s H vs Q E hr h => ⟨_, pss_one (ps_ret (pe_def DP hr (by decide) rfl (pa_cons (pe_fld (pv 0) rfl) (pa_cons (pe_fld (pv 0) rfl) pa_nil)))), ?_⟩)
  · obtain ⟨a, l, o, rfl, _⟩ := h
    rfl
  · obtain ⟨a, l, o, rfl, ⟨⟨dx, h1⟩, xs, h2, h3⟩, hw, hT, k⟩ := h
    exact ⟨_, rfl, a, CO, dx, _, _, rfl, h1, T.clO, T.oPs, oF_ps o l, _, rfl, a, CO, dx, _, _, rfl, h1, T.clO, T.oCap, oF_cap o l, l, xs, o, rfl, h2, h3, hw, hT, fun H' p ws e T' n hp hB _ => k H' p ws e T' n hp hB⟩
/-! ### min_batches, batch, temperatures -/
theorem scMinB : FnScope ["oven", "numbers"] ["oven", "numbers"] (defScope sMinB) := ⟨rfl, rfl, rfl, by decide +kernel, rfl, by decide +kernel, by decide +kernel⟩
theorem batches_len {o : Sr99.Oven} (w : Wf o) : (Sr99.batches o).length ≤ 54 := Nat.le_trans (from_len o _ _) (tins_sum w)
theorem ok_minB {f fb Pt : Addr} {fd fdb : FuncData} (F : Fun K "min_batches" "min_batches" sMinB f fd) (T : Txt K mg CP CO CR) (DB : Def P w K mg base "batches_of" 7 ["oven"] (spBatchesOf CP CO Pt) fb fdb) :
    FnOk P w K mg base CX0 10 f fd ["oven", "numbers"] (spOp K CP CO Pt fun ns c => c = .minBatches) := by
  refine F.ok scMinB len_op (fun cdv A outer s H vs Q E hr h => ⟨_, pss_one (ps_ret (pe_lst (pa_cons (pe_callB call_len_seq (by rfl) T.len PySem.boot_len (pa_cons (pe_def DB hr (by decide) rfl (pa_cons (pv 0) pa_nil)) pa_nil)) pa_nil))), ?_⟩)
  obtain ⟨a, l, nl, o, ns, c, rfl, hO, hw, hN, rfl, hT, k⟩ := h
  refine ⟨_, rfl, a, l, o, rfl, hO, hw, hT, fun H1 p ws e T1 n hp hB => ⟨p, _, rfl, .inl (SqL.of hp), (by show 1 ≤ sizeLine; decide), fun q hq => ?_⟩⟩
  refine op_same (hO.ext e) T1 (r := .ofCode ((Sr99.batches o).length : Int)) rfl (by rw [hB.len]; rfl) hq (op_on e k)
theorem scBatch : FnScope ["oven", "numbers", "k", "batches"] ["oven", "numbers"] (defScope sBatch) := ⟨rfl, rfl, rfl, by decide +kernel, rfl, by decide +kernel, by decide +kernel⟩
theorem num_at {ns : List Int} {z : Int} {i : Nat} (h : ns[i]? = some z) : (ns.map V.int)[i]? = some (.int z) := by
  rw [List.getElem?_map, h]
  rfl
theorem ok_batch {f fb Pt : Addr} {fd fdb : FuncData} (F : Fun K "batch" "batch" sBatch f fd) (T : Txt K mg CP CO CR) (DB : Def P w K mg base "batches_of" 7 ["oven"] (spBatchesOf CP CO Pt) fb fdb) :
    FnOk P w K mg base CX0 10 f fd ["oven", "numbers"] (spOp K CP CO Pt fun ns c => ∃ k, ns = [k] ∧ c = .batch k) := by
  refine F.ok scBatch len_op (fun cdv A outer s H vs Q E hr h => ⟨_, pss_cons (ps_set (i := 2) scBatch.nd rfl (Or.inl rfl) (pe_ix ix_list (pv 1) pe_int (fun _ _ => rfl)))
    (pss_cons (ps_set (i := 3) scBatch.nd rfl (Or.inl rfl) (pe_def DB hr (by decide) rfl (pa_cons (pv 0) pa_nil)))
    (pss_cons (ps_if (pt_not (pt_chain op_le op_lt pe_int (pv 2) (pe_callB call_len_seq (by rfl) T.len PySem.boot_len (pa_cons (pv 3) pa_nil)))) (pss_one (ps_ret (pe_lst (pa_cons (pe_gi rfl T.cMi) pa_nil)))) pss_nil)
    (pss_one (ps_ret (pe_op op_cat (pe_lst (pa_cons (pe_ix ix_tup (pe_ix ix_list (pv 3) (pv 2) (fun _ _ => rfl)) pe_int (fun _ _ => rfl)) pa_nil)) (pe_ix ix_tup (pe_ix ix_list (pv 3) (pv 2) (fun _ _ => rfl)) pe_int (fun _ _ => rfl))))))), ?_⟩)
  obtain ⟨a, l, nl, o, ns, c, rfl, hO, hw, hN, ⟨k, rfl, rfl⟩, hT, kk⟩ := h
  refine ⟨_, rfl, nl, _, 0, _, rfl, rfl, hN, at_of (j := 0) rfl rfl, ?_⟩
  refine ⟨_, rfl, a, l, o, rfl, hO, hw, hT, fun H1 p ws e T1 n hp hB => ?_⟩
  have kk' := op_on e kk
  have bad : ¬ (0 ≤ k ∧ k < ((Sr99.batches o).length : Int)) → Sr99.perform o (.batch k) = (none, .ofCode (-2)) := fun hb => by
    show (none, (if k < 0 then SrCommon.Result.ofCode SrCommon.notFound else match (Sr99.batches o)[k.toNat]? with
      | none => .ofCode SrCommon.notFound
      | some b => ⟨(b.temperature : Int), SrCommon.natsToInts b.tins⟩)) = _
    by_cases h0 : k < 0
    · rw [if_pos h0]
      rfl
    · rw [if_neg h0, List.getElem?_eq_none (by omega)]
      rfl
  have missing : ¬ (0 ≤ k ∧ k < ((Sr99.batches o).length : Int)) → ∀ q, H1 q = none → Q (.ref q) (upd H1 q (.lst [.int (-2)])) := fun hb q hq => op_same (hO.ext e) T1 (bad hb) rfl hq kk'
  refine ⟨_, rfl, _, _, rfl, rfl, _, rfl, ?_⟩
  refine ite2 (fun c1 => ?_) fun c1 => ?_
  · refine ⟨_, rfl, p, _, rfl, .inl (SqL.of hp), _, _, rfl, rfl, _, rfl, ?_⟩
    have h0 : 0 ≤ k := of_decide_eq_true c1
    by_cases c2 : k < ((Sr99.batches o).length : Int)
    · rw [show decide (k < (ws.length : Int)) = true from decide_eq_true (by rw [hB.len]; exact c2)]
      refine iteF ?_
      have hk : k.toNat < (Sr99.batches o).length := by omega
      obtain ⟨v, v1, t, q, rfl, t1, q1⟩ := hB.at_ k.toNat _ (List.getElem?_eq_getElem hk)
      have ek : k = ((k.toNat : Nat) : Int) := by omega
      have lv := (List.getElem?_eq_some_iff.mp v1).1
      refine ⟨_, rfl, _, rfl, p, _, k, _, rfl, rfl, SqL.of hp, at_of ek v1, t, _, 0, _, rfl, rfl, SqT.of t1, at_of (j := 0) rfl rfl, (by show 1 ≤ sizeLine; decide), fun r hr => ?_⟩
      have hx : ExtN H1 (upd H1 r (.lst [.int ((Sr99.batches o)[k.toNat].temperature : Int)])) := ext_upd hr
      refine ⟨_, rfl, _, rfl, p, _, k, _, rfl, rfl, SqL.of (hx p _ hp fun ps z => by cases z), at_of ek v1, t, _, 1, _, rfl, rfl, SqT.of (hx t _ t1 fun ps z => by cases z), at_of (j := 1) rfl rfl, r, q, _, _, rfl, rfl, upd_same, hx q _ q1 (fun ps z => by cases z), ?_, fun r2 hr2 => ?_⟩
      · rw [nats_len, from_tins o _ _ _ (List.getElem_mem hk)]
        have := hw.few
        show 1 + _ ≤ sizeLine
        rw [sizeLine_eq]
        omega
      · refine op_same ((hO.ext e).ext hx) (tabs_upd T1 hr) (r := ⟨((Sr99.batches o)[k.toNat].temperature : Int), SrCommon.natsToInts (Sr99.batches o)[k.toNat].tins⟩) ?_ ?_ hr2 (op_on hx kk')
        · show (none, (if k < 0 then SrCommon.Result.ofCode SrCommon.notFound else match (Sr99.batches o)[k.toNat]? with
            | none => .ofCode SrCommon.notFound
            | some b => ⟨(b.temperature : Int), SrCommon.natsToInts b.tins⟩)) = _
          rw [if_neg (by omega), List.getElem?_eq_getElem hk]
        · show [V.int _] ++ nats _ = _
          unfold ansV
          rw [List.map_cons]
          show _ = V.int _ :: (List.map _ _).map V.int
          rw [nats_ints]
          rfl
    · rw [show decide (k < (ws.length : Int)) = false from decide_eq_false (by rw [hB.len]; exact c2)]
      refine iteT ⟨(by show 1 ≤ sizeLine; decide), fun q hq => missing (fun z => c2 z.2) q hq⟩
  · refine ⟨_, rfl, ?_⟩
    exact iteT ⟨(by show 1 ≤ sizeLine; decide), fun q hq => missing (fun z => c1 (decide_eq_true z.1)) q hq⟩
end
end Ov
/-! temperatures, and the operations that change the instance -/
namespace Ov
open PySem PySem.Spec PyProof.Rows L2 LamX NdefX OvS Ovb
theorem ProdsAt.snoc {C : Addr} {H : Hp} {vs : List V} {ps : List Sr99.Product} {a : Addr} {p : Sr99.Product} (h : ProdsAt C H vs ps) (ha : ProdAt C H a p) : ProdsAt C H (vs ++ [.ref a]) (ps ++ [p]) := by
  refine ⟨by rw [List.length_append, List.length_append, h.len]; rfl, fun i q e => ?_⟩
  by_cases hi : i < ps.length
  · rw [List.getElem?_append_left hi] at e
    rw [List.getElem?_append_left (by rw [h.len]; exact hi)]
    exact h.at_ i q e
  · have hi2 : i = ps.length := by
      have := (List.getElem?_eq_some_iff.mp e).1
      rw [List.length_append, List.length_singleton] at this
      omega
    subst hi2
    rw [List.getElem?_append_right (Nat.le_refl _), Nat.sub_self] at e
    cases e
    rw [← h.len, List.getElem?_append_right (Nat.le_refl _), Nat.sub_self]
    exact ⟨a, rfl, ha⟩
theorem ProdsAt.set {C : Addr} {H : Hp} {vs : List V} {ps : List Sr99.Product} {a : Addr} {p : Sr99.Product} {j : Nat} (h : ProdsAt C H vs ps) (hj : j < ps.length) (ha : ProdAt C H a p) : ProdsAt C H (vs.set j (.ref a)) (ps.set j p) := by
  refine ⟨by rw [List.length_set, List.length_set, h.len], fun i q e => ?_⟩
  by_cases hi : j = i
  · subst hi
    rw [List.getElem?_set_self hj] at e
    cases e
    exact ⟨a, List.getElem?_set_self (by rw [h.len]; exact hj), ha⟩
  · rw [List.getElem?_set_ne hi] at e
    rw [List.getElem?_set_ne hi]
    exact h.at_ i q e
theorem ProdsAt.erase {C : Addr} {H : Hp} {vs : List V} {ps : List Sr99.Product} {j : Nat} (h : ProdsAt C H vs ps) (hj : j < ps.length) : ProdsAt C H (vs.eraseIdx j) (ps.eraseIdx j) := by
  refine ⟨by rw [List.length_eraseIdx_of_lt (by rw [h.len]; exact hj), List.length_eraseIdx_of_lt hj, h.len], fun i q e => ?_⟩
  rw [List.getElem?_eraseIdx] at e ⊢
  by_cases hi : i < j
  · rw [if_pos hi] at e ⊢
    exact h.at_ i q e
  · rw [if_neg hi] at e ⊢
    exact h.at_ (i + 1) q e
theorem prodAt_of {C dx a : Addr} {H : Hp} {lo hi t : Int} (h : H a = some (.ins C dx [("min_temperature", .int lo), ("max_temperature", .int hi), ("tins", .int t)])) (h1 : 0 ≤ lo) (h2 : 0 ≤ hi) (h3 : 0 ≤ t) : ProdAt C H a ⟨lo.toNat, hi.toNat, t.toNat⟩ := by
  refine ⟨dx, ?_⟩
  unfold pF
  rw [Int.toNat_of_nonneg h1, Int.toNat_of_nonneg h2, Int.toNat_of_nonneg h3]
  exact h
theorem ixN_int {n : Nat} {i : Int} (h0 : 0 ≤ i) (h1 : i < (n : Int)) : ixN n i = some i.toNat := by
  unfold ixN
  rw [if_pos h0, if_pos h1]
theorem isRange_iff {lo hi : Int} : Sr99.isRange lo hi = true ↔ 0 ≤ lo ∧ lo ≤ hi ∧ hi ≤ 400 := by
  show (decide (0 ≤ lo) && (decide (lo ≤ hi) && decide (hi ≤ 400))) = true ↔ _
  simp
theorem isTins_iff {t : Int} : Sr99.isTinCount t = true ↔ 0 ≤ t ∧ t ≤ 9 := by
  show (decide (0 ≤ t) && decide (t ≤ 9)) = true ↔ _
  simp
theorem isCap_iff {t : Int} : Sr99.isCapacity t = true ↔ 1 ≤ t ∧ t ≤ 20 := by
  show (decide (1 ≤ t) && decide (t ≤ 20)) = true ↔ _
  simp
theorem isProd_iff {o : Sr99.Oven} {i : Int} : Sr99.isProduct o i = true ↔ 0 ≤ i ∧ i < (o.products.length : Int) := by
  show (decide (0 ≤ i) && decide (i < (o.products.length : Int))) = true ↔ _
  simp
theorem not_bool {b : Bool} {A B : Prop} (h1 : b = true → B) (h2 : b = false → A) : if (!b) = true then A else B := by
  cases b with
  | true => exact iteF (h1 rfl)
  | false => exact iteT (h2 rfl)
section
variable {P : Program} {w : World} {K : PySem.W.Frag} {mg : Str → Option Value} {base : Heap} {CP CO CR : Addr}
/-! ### planned_temperatures, temperatures -/
def spPTemps (CP CO Pt : Addr) : Sp := fun vs H Q _ => ∃ (a l : Addr) (o : Sr99.Oven), vs = [.ref a] ∧ OvenAt CP CO H a l o ∧ Wf o ∧ Tabs (TT Pt) H ∧
  ∀ (H' : Hp) (p : Addr), ExtN H H' → Tabs (TT Pt) H' → New H p → H' p = some (.lst (nats (Sr99.temperaturesOf (Sr99.batches o)))) → Q (.ref p) H'
theorem temps_len (o : Sr99.Oven) : (Sr99.temperaturesOf (Sr99.batches o)).length = (Sr99.batches o).length := List.length_map ..
theorem scPTemps : FnScope ["oven", "planned"] ["oven"] (defScope sPTemps) := ⟨rfl, rfl, rfl, by decide +kernel, rfl, by decide +kernel, by decide +kernel⟩
theorem ok_ptemps {f fb Pt : Addr} {fd fdb : FuncData} (F : Fun K "planned_temperatures" "planned_temperatures" sPTemps f fd) (T : Txt K mg CP CO CR) (DB : Def P w K mg base "batches_of" 7 ["oven"] (spBatchesOf CP CO Pt) fb fdb) :
    FnOk P w K mg base CX0 8 f fd ["oven"] (spPTemps CP CO Pt) := by
  refine F.ok scPTemps (fun vs H Q E h => ?_) (fun cdv A outer s H vs Q E hr h => ⟨_, pss_one (ps_ret
      (pe_lc (own := [("planned", 1)]) (g := gName 1) (tt := tYes) (te := tOp (rIxT K) (tVar 1) (tC (.int 0))) rfl scPTemps.nd (pi_list (pe_def DB hr (by decide) rfl (pa_cons (pv 0) pa_nil))) (blkOk_by (own := [("planned", 1)]) (N := ["oven", "planned"]) (sc := defScope sPTemps) (by decide +kernel))
        (fun _ _ _ _ _ => pg_name (i := 1) scPTemps.nd rfl (Or.inl rfl)) (fun _ _ _ _ _ => pts_nil) (fun _ _ _ _ _ => pe_ix ix_tup (pv 1) pe_int (fun _ _ => rfl)))), ?_⟩)
  · obtain ⟨a, l, o, rfl, _⟩ := h
    rfl
  obtain ⟨a, l, o, rfl, hO, hw, hT, k⟩ := h
  refine ⟨_, rfl, a, l, o, rfl, hO, hw, hT, fun H1 p ws e T1 n hp hB => ?_⟩
  have hlen := batches_len hw
  refine ⟨p, rfl, ⟨_, SqL.of hp⟩, fun D hD => lc_list (K := K) (a := p) (xs := ws) (fun i H' => Same H1 H' ∧ H' D = some (.lst (nats ((Sr99.temperaturesOf (Sr99.batches o)).take i)))) ⟨same_upd (Same.refl H1) hD, upd_same⟩
    (fun i H' _ ⟨sm, _⟩ => SqL.of (sm p _ hp)) (fun i x H' hxi ⟨sm, hd⟩ => ?_) (fun H' ⟨sm, hd⟩ => ?_)⟩
  · have hi : i < (Sr99.batches o).length := by
      rw [← hB.len]
      exact (List.getElem?_eq_some_iff.mp hxi).1
    obtain ⟨v, v1, t, q, rfl, t1, q1⟩ := hB.at_ i _ (List.getElem?_eq_getElem hi)
    rw [hxi] at v1
    cases v1
    refine ⟨rfl, _, rfl, t, _, 0, _, rfl, rfl, SqT.of (sm t _ t1), at_of (j := 0) rfl rfl, _, hd, ?_, same_upd sm hD, ?_⟩
    · rw [nats_len, List.length_take, sizeLine_eq]
      omega
    · have e2 : (Sr99.temperaturesOf (Sr99.batches o))[i]? = some (Sr99.batches o)[i].temperature := by
        unfold Sr99.temperaturesOf
        rw [List.getElem?_map, List.getElem?_eq_getElem hi]
        rfl
      have e3 : nats ((Sr99.temperaturesOf (Sr99.batches o)).take (i + 1)) = nats ((Sr99.temperaturesOf (Sr99.batches o)).take i) ++ [.int ((Sr99.batches o)[i].temperature : Int)] := by
        rw [take_more e2]
        unfold nats
        rw [List.map_append]
        rfl
      rw [e3]
      exact upd_same
  · have e4 : (Sr99.temperaturesOf (Sr99.batches o)).take ws.length = Sr99.temperaturesOf (Sr99.batches o) := by
      rw [hB.len, ← temps_len, List.take_length]
    rw [e4] at hd
    exact k H' D (e.trans (same_ext sm)) (T1.ext sm) ((New.of hD).back e) hd
theorem scTemps : FnScope ["oven", "numbers", "planned"] ["oven", "numbers"] (defScope sTemps) := ⟨rfl, rfl, rfl, by decide +kernel, rfl, by decide +kernel, by decide +kernel⟩
theorem ans_list {c : Int} {l : List Nat} : ansV ⟨c, SrCommon.natsToInts l⟩ = V.int c :: nats l := by
  unfold ansV
  rw [List.map_cons]
  show V.int c :: (List.map _ _).map V.int = _
  rw [nats_ints]
theorem ok_temps {f fb Pt : Addr} {fd fdb : FuncData} (F : Fun K "temperatures" "temperatures" sTemps f fd) (T : Txt K mg CP CO CR) (DP : Def P w K mg base "planned_temperatures" 8 ["oven"] (spPTemps CP CO Pt) fb fdb) :
    FnOk P w K mg base CX0 10 f fd ["oven", "numbers"] (spOp K CP CO Pt fun ns c => c = .temperatures) := by
  refine F.ok scTemps len_op (fun cdv A outer s H vs Q E hr h => ⟨_, pss_cons (ps_set (i := 2) scTemps.nd rfl (Or.inl rfl) (pe_def DP hr (by decide) rfl (pa_cons (pv 0) pa_nil)))
    (pss_one (ps_ret (pe_op op_cat (pe_lst (pa_cons (pe_callB call_len_seq (by rfl) T.len PySem.boot_len (pa_cons (pv 2) pa_nil)) pa_nil)) (pv 2)))), ?_⟩)
  obtain ⟨a, l, nl, o, ns, c, rfl, hO, hw, hN, rfl, hT, k⟩ := h
  refine ⟨_, rfl, a, l, o, rfl, hO, hw, hT, fun H1 p e T1 n hp => ?_⟩
  have hlen := batches_len hw
  refine ⟨_, rfl, p, _, rfl, .inl (SqL.of hp), (by show 1 ≤ sizeLine; decide), fun r hr => ?_⟩
  have hx : ExtN H1 (upd H1 r (.lst [.int ((nats (Sr99.temperaturesOf (Sr99.batches o))).length : Int)])) := ext_upd hr
  refine ⟨_, rfl, r, p, _, _, rfl, rfl, upd_same, hx p _ hp (fun ps z => by cases z), ?_, fun q hq => ?_⟩
  · rw [nats_len, temps_len]
    show 1 + _ ≤ sizeLine
    rw [sizeLine_eq]
    omega
  · refine op_same ((hO.ext e).ext hx) (tabs_upd T1 hr) (r := Sr99.listResult (Sr99.temperaturesOf (Sr99.batches o))) rfl ?_ hq (op_on hx (op_on e k))
    rw [nats_len]
    exact ans_list.symm
/-! ### set_capacity -/
theorem scSetCap : FnScope ["oven", "numbers", "capacity", "old"] ["oven", "numbers"] (defScope sSetCap) := ⟨rfl, rfl, rfl, by decide +kernel, rfl, by decide +kernel, by decide +kernel⟩
theorem oF_put (o : Sr99.Oven) (l : Addr) {c : Int} (h : 0 ≤ c) : putF "capacity" (.int c) (oF o l) = oF { o with capacity := c.toNat } l := by
  unfold oF
  rw [put_here, Int.toNat_of_nonneg h]
theorem oF_pF {o : Sr99.Oven} {l C1 C2 d1 d2 : Addr} {p : Sr99.Product} (h : (some (HO.ins C1 d1 (oF o l)) : Option HO) = some (.ins C2 d2 (pF p))) : False := by
  have e := Option.some.inj h
  injection e with _ _ e3
  have := congrArg List.length e3
  simp [oF, pF] at this
theorem ok_setCap {f fc Pt : Addr} {fd fdc : FuncData} (F : Fun K "set_capacity" "set_capacity" sSetCap f fd) (T : Txt K mg CP CO CR) (DC : Def P w K mg base "is_capacity" 1 ["capacity"] spIsCap fc fdc) :
    FnOk P w K mg base CX0 10 f fd ["oven", "numbers"] (spOp K CP CO Pt fun ns c => ∃ k, ns = [k] ∧ c = .setCapacity k) := by
  refine F.ok scSetCap len_op (fun cdv A outer s H vs Q E hr h => ⟨_, pss_cons (ps_set (i := 2) scSetCap.nd rfl (Or.inl rfl) (pe_ix ix_list (pv 1) pe_int (fun _ _ => rfl)))
    (pss_cons (ps_if (pt_not (pt_val (pe_def DC hr (by decide) rfl (pa_cons (pv 2) pa_nil)))) (pss_one (ps_ret (pe_lst (pa_cons (pe_gi rfl T.cOu) pa_nil)))) pss_nil)
    (pss_cons (ps_set (i := 3) scSetCap.nd rfl (Or.inl rfl) (pe_fld (pv 0) rfl))
    (pss_cons (ps_fld (pv 0) (pv 2) rfl) (pss_one (ps_ret (pe_lst (pa_cons (pv 3) pa_nil))))))), ?_⟩)
  obtain ⟨a, l, nl, o, ns, c, rfl, hO, hw, hN, ⟨c, rfl, rfl⟩, hT, k⟩ := h
  refine ⟨_, rfl, nl, _, 0, _, rfl, rfl, hN, at_of (j := 0) rfl rfl, _, rfl, c, rfl, _, rfl, ?_⟩
  have ep : Sr99.perform o (.setCapacity c) = if Sr99.isCapacity c = false then Sr99.error SrCommon.invalidArgument else (some { o with capacity := c.toNat }, Sr99.countResult o.capacity) := rfl
  refine not_bool (fun hc => ?_) fun hc => ?_
  · obtain ⟨⟨dx, h1⟩, xs, h2, h3⟩ := hO
    have nal : a ≠ l := ne_of h1 h2 fun z => by cases z
    have h0 := isCap_iff.mp hc
    refine ⟨_, rfl, a, CO, dx, _, _, rfl, h1, T.clO, T.oCap, oF_cap o l, ?_⟩
    refine ⟨_, rfl, _, rfl, a, CO, dx, _, rfl, h1, T.clO, T.oCap, (by show 2 < 1000; decide), ?_⟩
    rw [oF_put o l (by omega)]
    have f1 : Fr [a, l] H (upd H a (.ins CO dx (oF { o with capacity := c.toNat } l))) := Fr.upd (by simp)
    have T1 := tabs_put (o := .ins CO dx (oF { o with capacity := c.toNat } l)) hT h1 (fun ps z => by cases z) (fun φ z => by cases z)
    refine ⟨_, rfl, (by show 1 ≤ sizeLine; decide), fun p hp => ?_⟩
    have O2 : OvenAt CP CO (upd H a (.ins CO dx (oF { o with capacity := c.toNat } l))) a l { o with capacity := c.toNat } := by
      refine ⟨⟨dx, upd_same⟩, xs, (upd_ne (Ne.symm nal)).trans h2, h3.keep fun b q ⟨d2, z⟩ => ⟨d2, (upd_ne fun z' => ?_).trans z⟩⟩
      rw [z', h1] at z
      exact oF_pF z
    refine k _ p l ?_ ?_ (.inl rfl) (f1.trans (Fr.ext (ext_upd hp))) (tabs_upd T1 hp) (New.of (upd_none hp))
    · rw [ep, if_neg (by rw [hc]; simp)]
      exact upd_same
    · rw [ep, if_neg (by rw [hc]; simp)]
      exact O2.ext (ext_upd hp)
  · refine ⟨(by show 1 ≤ sizeLine; decide), fun p hp => op_same hO hT (r := .ofCode (-22)) ?_ rfl hp k⟩
    rw [ep, if_pos hc]
    rfl
/-! ### remove_product -/
theorem scRemove : FnScope ["oven", "numbers", "i"] ["oven", "numbers"] (defScope sRemove) := ⟨rfl, rfl, rfl, by decide +kernel, rfl, by decide +kernel, by decide +kernel⟩
/-- another list of products is stored -/
theorem OvenAt.put {CP CO : Addr} {H : Hp} {a l : Addr} {o : Sr99.Oven} {vs : List V} {ps : List Sr99.Product} (h : OvenAt CP CO H a l o) (hp : ProdsAt CP H vs ps) : OvenAt CP CO (upd H l (.lst vs)) a l { o with products := ps } := by
  obtain ⟨⟨dx, h1⟩, xs, h2, h3⟩ := h
  have nal : a ≠ l := ne_of h1 h2 fun z => by cases z
  refine ⟨⟨dx, (upd_ne nal).trans h1⟩, vs, upd_same, hp.keep fun b q ⟨d2, z⟩ => ⟨d2, (upd_ne fun z' => ?_).trans z⟩⟩
  rw [z', h2] at z
  cases z
theorem ok_remove {f fh Pt : Addr} {fd fdh : FuncData} (F : Fun K "remove_product" "remove_product" sRemove f fd) (T : Txt K mg CP CO CR) (DH : Def P w K mg base "has_product" 1 ["oven", "i"] (spHas CP CO) fh fdh) :
    FnOk P w K mg base CX0 10 f fd ["oven", "numbers"] (spOp K CP CO Pt fun ns c => ∃ i, ns = [i] ∧ c = .removeProduct i) := by
  refine F.ok scRemove len_op (fun cdv A outer s H vs Q E hr h => ⟨_, pss_cons (ps_set (i := 2) scRemove.nd rfl (Or.inl rfl) (pe_ix ix_list (pv 1) pe_int (fun _ _ => rfl)))
    (pss_cons (ps_if (pt_not (pt_val (pe_def DH hr (by decide) rfl (pa_cons (pv 0) (pa_cons (pv 2) pa_nil))))) (pss_one (ps_ret (pe_lst (pa_cons (pe_gi rfl T.cMi) pa_nil)))) pss_nil)
    (pss_cons (ps_expr (pe_bm PySem.F.plainAttrs_list PySem.F.slot_list_pop PySem.F.type_list_pop mt_popAt (pe_fld (pv 0) rfl) (pa_cons (pv 2) pa_nil)))
    (pss_one (ps_ret (pe_lst (pa_cons (pe_callB call_len_seq (by rfl) T.len PySem.boot_len (pa_cons (pe_fld (pv 0) rfl) pa_nil)) pa_nil)))))), ?_⟩)
  obtain ⟨a, l, nl, o, ns, c, rfl, hO, hw, hN, ⟨i, rfl, rfl⟩, hT, k⟩ := h
  refine ⟨_, rfl, nl, _, 0, _, rfl, rfl, hN, at_of (j := 0) rfl rfl, _, rfl, _, rfl, a, l, o, i, rfl, hO, _, rfl, ?_⟩
  have ep : Sr99.perform o (.removeProduct i) = if Sr99.isProduct o i = false then Sr99.error SrCommon.notFound else (some { o with products := o.products.eraseIdx i.toNat }, Sr99.countResult (o.products.length - 1)) := rfl
  refine not_bool (fun hc => ?_) fun hc => ?_
  · obtain ⟨i0, i1⟩ := isProd_iff.mp hc
    obtain ⟨⟨dx, h1⟩, xs, h2, h3⟩ := id hO
    have nal : a ≠ l := ne_of h1 h2 fun z => by cases z
    have hi : i.toNat < o.products.length := by omega
    have ei : i = ((i.toNat : Nat) : Int) := by omega
    have hx : ixN xs.length i = some i.toNat := ixN_int i0 (by rw [h3.len]; exact i1)
    obtain ⟨x1, x2, _, _⟩ := ixN_seq hx
    have few := hw.few
    refine ⟨_, rfl, a, CO, dx, _, _, rfl, h1, T.clO, T.oPs, oF_ps o l, .inl ⟨rfl, _, .inl (.inl h2)⟩, _, rfl, l, xs, i, i.toNat, _, rfl, rfl, h2, by omega, by omega, x1, List.getElem?_eq_getElem x2, ?_⟩
    have O2 := hO.put (h3.erase hi)
    have T2 := tabs_put (o := .lst (xs.eraseIdx i.toNat)) hT h2 (fun ps z => by cases z) (fun φ z => by cases z)
    have f2 : Fr [a, l] H (upd H l (.lst (xs.eraseIdx i.toNat))) := Fr.upd (by simp)
    refine ⟨_, rfl, a, CO, dx, _, _, rfl, (upd_ne nal).trans h1, T.clO, T.oPs, oF_ps o l, l, _, rfl, .inl (SqL.of upd_same), (by show 1 ≤ sizeLine; decide), fun p hp => ?_⟩
    refine k _ p l ?_ ?_ (.inl rfl) (f2.trans (Fr.ext (ext_upd hp))) (tabs_upd T2 hp) (New.of (upd_none hp))
    · rw [ep, if_neg (by rw [hc]; simp), upd_same, List.length_eraseIdx_of_lt x2, h3.len]
      rfl
    · rw [ep, if_neg (by rw [hc]; simp)]
      exact O2.ext (ext_upd hp)
  · refine ⟨(by show 1 ≤ sizeLine; decide), fun p hp => op_same hO hT (r := .ofCode (-2)) ?_ rfl hp k⟩
    rw [ep, if_pos hc]
    rfl
/-! ### with_tins, set_tins -/
def newTins (o : Sr99.Oven) (i t : Int) : Sr99.Oven := Sr99.withProduct o i.toNat { Sr99.productAt o i.toNat with tins := t.toNat }
def spWith (CP : Addr) : Sp := fun vs H Q _ => ∃ (l : Addr) (xs : List V) (o : Sr99.Oven) (i t : Int), vs = [.ref l, .int i, .int t] ∧ H l = some (.lst xs) ∧ ProdsAt CP H xs o.products ∧ o.products.length ≤ 6 ∧ 0 ≤ i ∧ i < (o.products.length : Int) ∧ 0 ≤ t ∧
  ∀ (H' : Hp) (p : Addr) (ys : List V), Same H H' → H p = none → H' p = some (.lst ys) → ProdsAt CP H' ys (newTins o i t).products → Q (.ref p) H'
theorem scWith : FnScope ["products", "i", "tins", "changed"] ["products", "i", "tins"] (defScope sWith) := ⟨rfl, rfl, rfl, by decide +kernel, rfl, by decide +kernel, by decide +kernel⟩
theorem ok_with {f fp : Addr} {fd fdp : FuncData} (F : Fun K "with_tins" "with_tins" sWith f fd) (T : Txt K mg CP CO CR)
    (M : Mk K CP fp) (G : FnOk P w K mg base CX0 1 fp fdp ["self", "min_temperature", "max_temperature", "tins"] (spPInit CP)) (bP : L2.Binds K fdp ["self", "min_temperature", "max_temperature", "tins"] []) :
    FnOk P w K mg base CX0 3 f fd ["products", "i", "tins"] (spWith CP) := by
  refine F.ok scWith (fun vs H Q E h => ?_) (fun cdv A outer s H vs Q E hr h => ⟨_, pss_cons (ps_set (i := 3) scWith.nd rfl (Or.inl rfl) (pe_callTy call_list_of (by rfl) T.list (by decide +kernel) (pa_cons (pv 0) pa_nil)))
    (pss_cons (ps_asg (pe_make M G (hr.mono (by decide)) rfl T.gP bP .nil pass0 (pa_cons (pe_fld (pe_ix ix_list (pv 0) (pv 1) (fun _ _ => rfl)) rfl) (pa_cons (pe_fld (pe_ix ix_list (pv 0) (pv 1) (fun _ _ => rfl)) rfl) (pa_cons (pv 2) pa_nil)))) (pg_sub (pv 3) (pv 1) set_list))
    (pss_one (ps_ret (pv 3)))), ?_⟩)
  · obtain ⟨l, xs, o, i, t, rfl, _⟩ := h
    rfl
  obtain ⟨l, xs, o, i, t, rfl, hl, hps, few, i0, i1, t0, k⟩ := h
  refine ⟨_, rfl, l, xs, rfl, .inl (SqL.of hl), fun c hc => ?_⟩
  have s1 : Same H (upd H c (.lst xs)) := same_upd (Same.refl H) hc
  have hc1 : upd H c (.lst xs) c = some (.lst xs) := upd_same
  generalize upd H c (.lst xs) = H1 at s1 hc1
  have hin : i.toNat < o.products.length := by omega
  have ei : i = ((i.toNat : Nat) : Int) := by omega
  obtain ⟨b, db, b1, b2⟩ := hps.field hin
  refine ⟨_, rfl, _, rfl, l, xs, i, _, rfl, rfl, SqL.of (s1 l _ hl), at_of ei b1, b, CP, db, _, _, rfl, s1 b _ b2, T.clP, T.pMin, pF_min _, ?_⟩
  refine ⟨_, rfl, _, rfl, l, xs, i, _, rfl, rfl, SqL.of (s1 l _ hl), at_of ei b1, b, CP, db, _, _, rfl, s1 b _ b2, T.clP, T.pMax, pF_max _, _, rfl, ?_⟩
  intro x dx2 nx nd nxd
  refine ⟨x, dx2, _, _, _, rfl, upd_same, fun H2 hx f2' => ⟨rfl, ?_⟩⟩
  have sm : Same H1 H2 := Same.made nx nd fun b o q hb => (f2' b hb).trans q
  have hi2 : ixN xs.length i = some i.toNat := ixN_int i0 (by rw [hps.len]; exact i1)
  refine ⟨_, rfl, _, rfl, c, xs, i, i.toNat, rfl, rfl, sm c _ hc1, hi2, ?_⟩
  have e2 : ExtN H H2 := same_ext (s1.trans sm)
  have pa : ProdAt CP H2 x { Sr99.productAt o i.toNat with tins := t.toNat } := ⟨dx2, by
    rw [hx]
    unfold pF
    rw [Int.toNat_of_nonneg t0]⟩
  have sm2 : Same H (upd H2 c (.lst (xs.set i.toNat (.ref x)))) := fun b u e => (upd_ne (ne_of_none e hc)).trans (sm b u (s1 b u e))
  refine ⟨_, rfl, k _ c _ sm2 hc upd_same (((hps.ext e2).set hin pa).keep fun a p ⟨d, z⟩ => ⟨d, (upd_ne fun z' => ?_).trans z⟩)⟩
  have := sm c _ hc1
  rw [z', this] at z
  cases z
theorem scSetTins : FnScope ["oven", "numbers", "i", "tins", "old"] ["oven", "numbers"] (defScope sSetTins) := ⟨rfl, rfl, rfl, by decide +kernel, rfl, by decide +kernel, by decide +kernel⟩
theorem oF_putP (o : Sr99.Oven) (l p : Addr) (i t : Int) : putF "products" (.ref p) (oF o l) = oF (newTins o i t) p := (put_past (by decide +kernel)).trans (congrArg _ put_here)
theorem ok_setTins {f fh ft fw Pt : Addr} {fd fdh fdt fdw : FuncData} (F : Fun K "set_tins" "set_tins" sSetTins f fd) (T : Txt K mg CP CO CR) (DH : Def P w K mg base "has_product" 1 ["oven", "i"] (spHas CP CO) fh fdh) (DT : Def P w K mg base "is_number_of_tins" 1 ["tins"] spIsTins ft fdt)
    (DW : Def P w K mg base "with_tins" 3 ["products", "i", "tins"] (spWith CP) fw fdw) :
    FnOk P w K mg base CX0 10 f fd ["oven", "numbers"] (spOp K CP CO Pt fun ns c => ∃ i t, ns = [i, t] ∧ c = .setTins i t) := by
  refine F.ok scSetTins len_op (fun cdv A outer s H vs Q E hr h => ⟨_, pss_cons (ps_set (i := 2) scSetTins.nd rfl (Or.inl rfl) (pe_ix ix_list (pv 1) pe_int (fun _ _ => rfl))) (pss_cons (ps_set (i := 3) scSetTins.nd rfl (Or.inl rfl) (pe_ix ix_list (pv 1) pe_int (fun _ _ => rfl)))
    (pss_cons (ps_if (pt_not (pt_val (pe_def DH hr (by decide) rfl (pa_cons (pv 0) (pa_cons (pv 2) pa_nil))))) (pss_one (ps_ret (pe_lst (pa_cons (pe_gi rfl T.cMi) pa_nil)))) pss_nil)
    (pss_cons (ps_if (pt_not (pt_val (pe_def DT hr (by decide) rfl (pa_cons (pv 3) pa_nil)))) (pss_one (ps_ret (pe_lst (pa_cons (pe_gi rfl T.cOu) pa_nil)))) pss_nil)
    (pss_cons (ps_set (i := 4) scSetTins.nd rfl (Or.inl rfl) (pe_fld (pe_ix ix_list (pe_fld (pv 0) rfl) (pv 2) (fun _ _ => rfl)) rfl))
    (pss_cons (ps_fld (pv 0) (pe_def DW hr (by decide) rfl (pa_cons (pe_fld (pv 0) rfl) (pa_cons (pv 2) (pa_cons (pv 3) pa_nil)))) rfl)
    (pss_one (ps_ret (pe_lst (pa_cons (pv 4) pa_nil))))))))), ?_⟩)
  obtain ⟨a, l, nl, o, ns, c, rfl, hO, hw, hN, ⟨i, t, rfl, rfl⟩, hT, k⟩ := h
  refine ⟨_, rfl, nl, _, 0, _, rfl, rfl, hN, at_of (j := 0) rfl rfl, _, rfl, nl, _, 1, _, rfl, rfl, hN, at_of (j := 1) rfl rfl, _, rfl, _, rfl, a, l, o, i, rfl, hO, _, rfl, ?_⟩
  have ep : Sr99.perform o (.setTins i t) = if Sr99.isProduct o i = false then Sr99.error SrCommon.notFound else if Sr99.isTinCount t = false then Sr99.error SrCommon.invalidArgument else
    (some (newTins o i t), Sr99.countResult (Sr99.productAt o i.toNat).tins) := rfl
  refine not_bool (fun hc => ?_) fun hc => ?_
  · refine ⟨_, rfl, t, rfl, _, rfl, not_bool (fun hc2 => ?_) fun hc2 => ?_⟩
    · obtain ⟨i0, i1⟩ := isProd_iff.mp hc
      obtain ⟨t0, t1⟩ := isTins_iff.mp hc2
      obtain ⟨⟨dx, h1⟩, xs, h2, h3⟩ := id hO
      have hi : i.toNat < o.products.length := by omega
      have ei : i = ((i.toNat : Nat) : Int) := by omega
      obtain ⟨b, db, b1, b2⟩ := h3.field hi
      refine ⟨_, rfl, a, CO, dx, _, _, rfl, h1, T.clO, T.oPs, oF_ps o l, _, rfl, l, xs, i, _, rfl, rfl, SqL.of h2, at_of ei b1, b, CP, db, _, _, rfl, b2, T.clP, T.pTin, pF_tins _, ?_⟩
      refine ⟨_, rfl, a, CO, dx, _, _, rfl, h1, T.clO, T.oPs, oF_ps o l, _, rfl, _, rfl, l, xs, o, i, t, rfl, h2, h3, hw.few, i0, i1, t0, fun H2 p ys sm np hp hps2 => ?_⟩
      refine ⟨_, rfl, a, CO, dx, _, rfl, sm a _ h1, T.clO, T.oPs, (by show 2 < 1000; decide), ?_⟩
      rw [oF_putP o l p i t]
      have nap : p ≠ a := fun z => by
        rw [z, h1] at np
        cases np
      have O2 : OvenAt CP CO (upd H2 a (.ins CO dx (oF (newTins o i t) p))) a p (newTins o i t) := by
        refine ⟨⟨dx, upd_same⟩, ys, (upd_ne nap).trans hp, hps2.keep fun c q ⟨d2, z⟩ => ⟨d2, (upd_ne fun z' => ?_).trans z⟩⟩
        rw [z', sm a _ h1] at z
        exact oF_pF z
      have f2 : Fr [a, l] H (upd H2 a (.ins CO dx (oF (newTins o i t) p))) := (Fr.ext (same_ext sm)).trans (Fr.upd (by simp))
      have T2 := tabs_put (o := .ins CO dx (oF (newTins o i t) p)) (hT.ext sm) (sm a _ h1) (fun ps z => by cases z) (fun φ z => by cases z)
      refine ⟨_, rfl, (by show 1 ≤ sizeLine; decide), fun q hq => ?_⟩
      refine k _ q p ?_ ?_ (.inr (New.of np)) (f2.trans (Fr.ext (ext_upd hq))) (tabs_upd T2 hq) ((New.of (upd_none hq)).back (same_ext sm))
      · rw [ep, if_neg (by rw [hc]; simp), if_neg (by rw [hc2]; simp)]
        exact upd_same
      · rw [ep, if_neg (by rw [hc]; simp), if_neg (by rw [hc2]; simp)]
        exact O2.ext (ext_upd hq)
    · refine ⟨(by show 1 ≤ sizeLine; decide), fun p hp => op_same hO hT (r := .ofCode (-22)) ?_ rfl hp k⟩
      rw [ep, if_neg (by rw [hc]; simp), if_pos hc2]
      rfl
  · refine ⟨(by show 1 ≤ sizeLine; decide), fun p hp => op_same hO hT (r := .ofCode (-2)) ?_ rfl hp k⟩
    rw [ep, if_pos hc]
    rfl
end
end Ov
/-! set_temperatures, add_product -/
namespace Ov
open PySem PySem.Spec PyProof.Rows L2 LamX NdefX OvS Ovb
section
variable {P : Program} {w : World} {K : PySem.W.Frag} {mg : Str → Option Value} {base : Heap} {CP CO CR : Addr}
theorem scSetTemp : FnScope ["oven", "numbers", "i", "min_temperature", "max_temperature", "old"] ["oven", "numbers"] (defScope sSetTemp) := ⟨rfl, rfl, rfl, by decide +kernel, rfl, by decide +kernel, by decide +kernel⟩
theorem ok_setTemp {f fh ft fp Pt : Addr} {fd fdh fdt fdp : FuncData} (F : Fun K "set_temperatures" "set_temperatures" sSetTemp f fd) (T : Txt K mg CP CO CR) (DH : Def P w K mg base "has_product" 1 ["oven", "i"] (spHas CP CO) fh fdh) (DT : Def P w K mg base "is_temperature_range" 1 ["min_temperature", "max_temperature"] spIsRange ft fdt)
    (M : Mk K CP fp) (G : FnOk P w K mg base CX0 1 fp fdp ["self", "min_temperature", "max_temperature", "tins"] (spPInit CP)) (bP : L2.Binds K fdp ["self", "min_temperature", "max_temperature", "tins"] []) :
    FnOk P w K mg base CX0 10 f fd ["oven", "numbers"] (spOp K CP CO Pt fun ns c => ∃ i lo hi, ns = [i, lo, hi] ∧ c = .setTemperatures i lo hi) := by
  refine F.ok scSetTemp len_op (fun cdv A outer s H vs Q E hr h => ⟨_, pss_cons (ps_set (i := 2) scSetTemp.nd rfl (Or.inl rfl) (pe_ix ix_list (pv 1) pe_int (fun _ _ => rfl))) (pss_cons (ps_set (i := 3) scSetTemp.nd rfl (Or.inl rfl) (pe_ix ix_list (pv 1) pe_int (fun _ _ => rfl)))
    (pss_cons (ps_set (i := 4) scSetTemp.nd rfl (Or.inl rfl) (pe_ix ix_list (pv 1) pe_int (fun _ _ => rfl)))
    (pss_cons (ps_if (pt_not (pt_val (pe_def DH hr (by decide) rfl (pa_cons (pv 0) (pa_cons (pv 2) pa_nil))))) (pss_one (ps_ret (pe_lst (pa_cons (pe_gi rfl T.cMi) pa_nil)))) pss_nil)
    (pss_cons (ps_if (pt_not (pt_val (pe_def DT hr (by decide) rfl (pa_cons (pv 3) (pa_cons (pv 4) pa_nil))))) (pss_one (ps_ret (pe_lst (pa_cons (pe_gi rfl T.cOu) pa_nil)))) pss_nil)
    (pss_cons (ps_set (i := 5) scSetTemp.nd rfl (Or.inl rfl) (pe_ix ix_list (pe_fld (pv 0) rfl) (pv 2) (fun _ _ => rfl)))
    (pss_cons (ps_asg (pe_make M G (hr.mono (by decide)) rfl T.gP bP .nil pass0 (pa_cons (pv 3) (pa_cons (pv 4) (pa_cons (pe_fld (pv 5) rfl) pa_nil)))) (pg_sub (pe_fld (pv 0) rfl) (pv 2) set_list))
    (pss_one (ps_ret (pe_lst (pa_cons pe_int (pa_cons (pe_fld (pv 5) rfl) (pa_cons (pe_fld (pv 5) rfl) pa_nil)))))))))))), ?_⟩)
  obtain ⟨a, l, nl, o, ns, c, rfl, hO, hw, hN, ⟨i, lo, hi, rfl, rfl⟩, hT, k⟩ := h
  refine ⟨_, rfl, nl, _, 0, _, rfl, rfl, hN, at_of (j := 0) rfl rfl, _, rfl, nl, _, 1, _, rfl, rfl, hN, at_of (j := 1) rfl rfl, _, rfl, nl, _, 2, _, rfl, rfl, hN, at_of (j := 2) rfl rfl, _, rfl, _, rfl, a, l, o, i, rfl, hO, _, rfl, ?_⟩
  have ep : Sr99.perform o (.setTemperatures i lo hi) = if Sr99.isProduct o i = false then Sr99.error SrCommon.notFound else if Sr99.isRange lo hi = false then Sr99.error SrCommon.invalidArgument else
    (some (Sr99.withProduct o i.toNat { Sr99.productAt o i.toNat with minTemperature := lo.toNat, maxTemperature := hi.toNat }), ⟨0, [((Sr99.productAt o i.toNat).minTemperature : Int), ((Sr99.productAt o i.toNat).maxTemperature : Int)]⟩) := rfl
  refine not_bool (fun hc => ?_) fun hc => ?_
  · refine ⟨_, rfl, _, rfl, lo, hi, rfl, _, rfl, not_bool (fun hc2 => ?_) fun hc2 => ?_⟩
    · obtain ⟨i0, i1⟩ := isProd_iff.mp hc
      obtain ⟨r0, r1, r2⟩ := isRange_iff.mp hc2
      obtain ⟨⟨dx, h1⟩, xs, h2, h3⟩ := id hO
      have nal : a ≠ l := ne_of h1 h2 fun z => by cases z
      have hin : i.toNat < o.products.length := by omega
      have ei : i = ((i.toNat : Nat) : Int) := by omega
      obtain ⟨b, db, b1, b2⟩ := h3.field hin
      refine ⟨_, rfl, a, CO, dx, _, _, rfl, h1, T.clO, T.oPs, oF_ps o l, _, rfl, l, xs, i, _, rfl, rfl, SqL.of h2, at_of ei b1, ?_⟩
      refine ⟨_, rfl, _, rfl, _, rfl, b, CP, db, _, _, rfl, b2, T.clP, T.pTin, pF_tins _, ?_⟩
      intro x dx2 nx nd nxd
      refine ⟨x, dx2, _, _, _, rfl, upd_same, fun H2 hx f2' => ⟨rfl, ?_⟩⟩
      have sm : Same H H2 := Same.made nx nd fun b o q hb => (f2' b hb).trans q
      have hi2 : ixN xs.length i = some i.toNat := ixN_int i0 (by rw [h3.len]; exact i1)
      refine ⟨_, rfl, a, CO, dx, _, _, rfl, sm a _ h1, T.clO, T.oPs, oF_ps o l, _, rfl, l, xs, i, i.toNat, rfl, rfl, sm l _ h2, hi2, ?_⟩
      have e2 : ExtN H H2 := same_ext sm
      have pa : ProdAt CP H2 x { Sr99.productAt o i.toNat with minTemperature := lo.toNat, maxTemperature := hi.toNat } := ⟨dx2, by
        rw [hx]
        unfold pF
        rw [Int.toNat_of_nonneg r0, Int.toNat_of_nonneg (by omega)]⟩
      have O2 := (hO.ext e2).put ((h3.ext e2).set hin pa)
      have T2 := tabs_put (o := .lst (xs.set i.toNat (.ref x))) (hT.ext sm) (sm l _ h2) (fun ps z => by cases z) (fun φ z => by cases z)
      have f2 : Fr [a, l] H (upd H2 l (.lst (xs.set i.toNat (.ref x)))) := (Fr.ext e2).trans (Fr.upd (by simp))
      have nb : b ≠ l := fun z => by
        rw [z, h2] at b2
        cases b2
      refine ⟨_, rfl, b, CP, db, _, _, rfl, (upd_ne nb).trans (sm b _ b2), T.clP, T.pMin, pF_min _, _, rfl, b, CP, db, _, _, rfl, (upd_ne nb).trans (sm b _ b2), T.clP, T.pMax, pF_max _, (by show 3 ≤ sizeLine; decide), fun p hp => ?_⟩
      refine k _ p l ?_ ?_ (.inl rfl) (f2.trans (Fr.ext (ext_upd hp))) (tabs_upd T2 hp) ((New.of (upd_none hp)).back e2)
      · rw [ep, if_neg (by rw [hc]; simp), if_neg (by rw [hc2]; simp)]
        exact upd_same
      · rw [ep, if_neg (by rw [hc]; simp), if_neg (by rw [hc2]; simp)]
        exact O2.ext (ext_upd hp)
    · refine ⟨(by show 1 ≤ sizeLine; decide), fun p hp => op_same hO hT (r := .ofCode (-22)) ?_ rfl hp k⟩
      rw [ep, if_neg (by rw [hc]; simp), if_pos hc2]
      rfl
  · refine ⟨(by show 1 ≤ sizeLine; decide), fun p hp => op_same hO hT (r := .ofCode (-2)) ?_ rfl hp k⟩
    rw [ep, if_pos hc]
    rfl
theorem scAdd : FnScope ["oven", "numbers", "min_temperature", "max_temperature", "tins"] ["oven", "numbers"] (defScope sAdd) := ⟨rfl, rfl, rfl, by decide +kernel, rfl, by decide +kernel, by decide +kernel⟩
theorem ok_add {f fr ft fp Pt : Addr} {fd fdr fdt fdp : FuncData} (F : Fun K "add_product" "add_product" sAdd f fd) (T : Txt K mg CP CO CR) (DR : Def P w K mg base "is_temperature_range" 1 ["min_temperature", "max_temperature"] spIsRange fr fdr) (DT : Def P w K mg base "is_number_of_tins" 1 ["tins"] spIsTins ft fdt)
    (M : Mk K CP fp) (G : FnOk P w K mg base CX0 1 fp fdp ["self", "min_temperature", "max_temperature", "tins"] (spPInit CP)) (bP : L2.Binds K fdp ["self", "min_temperature", "max_temperature", "tins"] []) :
    FnOk P w K mg base CX0 10 f fd ["oven", "numbers"] (spOp K CP CO Pt fun ns c => ∃ lo hi t, ns = [lo, hi, t] ∧ c = .addProduct lo hi t) := by
  refine F.ok scAdd len_op (fun cdv A outer s H vs Q E hr h => ⟨_, pss_cons (ps_set (i := 2) scAdd.nd rfl (Or.inl rfl) (pe_ix ix_list (pv 1) pe_int (fun _ _ => rfl))) (pss_cons (ps_set (i := 3) scAdd.nd rfl (Or.inl rfl) (pe_ix ix_list (pv 1) pe_int (fun _ _ => rfl)))
    (pss_cons (ps_set (i := 4) scAdd.nd rfl (Or.inl rfl) (pe_ix ix_list (pv 1) pe_int (fun _ _ => rfl)))
    (pss_cons (ps_if (PW.pt (pw_or (pt_not (pt_val (pe_def DR hr (by decide) rfl (pa_cons (pv 2) (pa_cons (pv 3) pa_nil))))) (pw_or1 (pt_not (pt_val (pe_def DT hr (by decide) rfl (pa_cons (pv 4) pa_nil))))))) (pss_one (ps_ret (pe_lst (pa_cons (pe_gi rfl T.cOu) pa_nil)))) pss_nil)
    (pss_cons (ps_if (pt_cmpR op_eq (pe_callB call_len_seq (by rfl) T.len PySem.boot_len (pa_cons (pe_fld (pv 0) rfl) pa_nil)) (pe_gi rfl T.cMP) (nomark _)) (pss_one (ps_ret (pe_lst (pa_cons (pe_gi rfl T.cTo) pa_nil)))) pss_nil)
    (pss_cons (ps_expr (pe_bm PySem.F.plainAttrs_list PySem.F.slot_list_append PySem.F.type_list_append mt_append (pe_fld (pv 0) rfl) (pa_cons (pe_make M G (hr.mono (by decide)) rfl T.gP bP .nil pass0 (pa_cons (pv 2) (pa_cons (pv 3) (pa_cons (pv 4) pa_nil)))) pa_nil)))
    (pss_one (ps_ret (pe_lst (pa_cons (pe_op op_sub (pe_callB call_len_seq (by rfl) T.len PySem.boot_len (pa_cons (pe_fld (pv 0) rfl) pa_nil)) pe_int) pa_nil))))))))), ?_⟩)
  obtain ⟨a, l, nl, o, ns, c, rfl, hO, hw, hN, ⟨lo, hi, t, rfl, rfl⟩, hT, k⟩ := h
  refine ⟨_, rfl, nl, _, 0, _, rfl, rfl, hN, at_of (j := 0) rfl rfl, _, rfl, nl, _, 1, _, rfl, rfl, hN, at_of (j := 1) rfl rfl, _, rfl, nl, _, 2, _, rfl, rfl, hN, at_of (j := 2) rfl rfl, ?_⟩
  have ep : Sr99.perform o (.addProduct lo hi t) = if Sr99.isRange lo hi = false ∨ Sr99.isTinCount t = false then Sr99.error SrCommon.invalidArgument else if Sr99.maxProducts ≤ o.products.length then Sr99.error SrCommon.capacityReached else
    (some { o with products := o.products ++ [⟨lo.toNat, hi.toNat, t.toNat⟩] }, Sr99.countResult o.products.length) := rfl
  have bad : (Sr99.isRange lo hi = false ∨ Sr99.isTinCount t = false) → ∀ p, H p = none → Q (.ref p) (upd H p (.lst [.int (-22)])) := fun hb p hp => op_same hO hT (r := .ofCode (-22)) (by rw [ep, if_pos hb]; rfl) rfl hp k
  refine ⟨_, rfl, _, rfl, lo, hi, rfl, _, rfl, not_bool (fun hc => ?_) fun hc => ?_⟩
  · refine ⟨_, rfl, t, rfl, _, rfl, not_bool (fun hc2 => ?_) fun hc2 => ?_⟩
    · have hg : ¬ (Sr99.isRange lo hi = false ∨ Sr99.isTinCount t = false) := by rw [hc, hc2]; simp
      obtain ⟨⟨dx, h1⟩, xs, h2, h3⟩ := id hO
      have nal : a ≠ l := ne_of h1 h2 fun z => by cases z
      refine ⟨_, rfl, a, CO, dx, _, _, rfl, h1, T.clO, T.oPs, oF_ps o l, l, _, rfl, .inl (SqL.of h2), rfl, _, rfl, ?_⟩
      refine ite2 (fun c => ?_) fun c => ?_
      · have c' := of_decide_eq_true c
        injection c' with c''
        refine ⟨(by show 1 ≤ sizeLine; decide), fun p hp => op_same hO hT (r := .ofCode (-28)) ?_ rfl hp k⟩
        rw [ep, if_neg hg, if_pos (by show 6 ≤ o.products.length; rw [← h3.len]; omega)]
        rfl
      · have c' : ¬ xs.length = 6 := fun z => c (decide_eq_true (by rw [z]; rfl))
        have few := hw.few
        rw [← h3.len] at few
        obtain ⟨r0, r1, r2⟩ := isRange_iff.mp hc
        obtain ⟨t0, t1⟩ := isTins_iff.mp hc2
        refine ⟨_, rfl, a, CO, dx, _, _, rfl, h1, T.clO, T.oPs, oF_ps o l, .inl ⟨rfl, _, .inl (.inl h2)⟩, _, rfl, _, rfl, _, rfl, ?_⟩
        intro x dx2 nx nd nxd
        refine ⟨x, dx2, _, _, _, rfl, upd_same, fun H2 hx f2' => ⟨rfl, ?_⟩⟩
        have sm : Same H H2 := Same.made nx nd fun b o q hb => (f2' b hb).trans q
        have e2 : ExtN H H2 := same_ext sm
        refine ⟨l, xs, _, rfl, rfl, sm l _ h2, by rw [sizeLine_eq]; omega, ?_⟩
        have O2 := (hO.ext e2).put ((h3.ext e2).snoc (prodAt_of hx r0 (by omega) t0))
        have T2 := tabs_put (o := .lst (xs ++ [.ref x])) (hT.ext sm) (sm l _ h2) (fun ps z => by cases z) (fun φ z => by cases z)
        have f2 : Fr [a, l] H (upd H2 l (.lst (xs ++ [.ref x]))) := (Fr.ext e2).trans (Fr.upd (by simp))
        refine ⟨_, rfl, a, CO, dx, _, _, rfl, (upd_ne nal).trans (sm a _ h1), T.clO, T.oPs, oF_ps o l, l, _, rfl, .inl (SqL.of upd_same), _, _, rfl, rfl, (by show 1 ≤ sizeLine; decide), fun p hp => ?_⟩
        refine k _ p l ?_ ?_ (.inl rfl) (f2.trans (Fr.ext (ext_upd hp))) (tabs_upd T2 hp) ((New.of (upd_none hp)).back e2)
        · rw [ep, if_neg hg, if_neg (by show ¬ 6 ≤ o.products.length; rw [← h3.len]; omega)]
          rw [upd_same, List.length_append, List.length_singleton, ← h3.len]
          have ez : (((xs.length + 1 : Nat) : Int) - 1) = (xs.length : Int) := by omega
          show some (HO.lst [V.int (((xs.length + 1 : Nat) : Int) - 1)]) = _
          rw [ez]
          rfl
        · rw [ep, if_neg hg, if_neg (by show ¬ 6 ≤ o.products.length; rw [← h3.len]; omega)]
          exact O2.ext (ext_upd hp)
    · exact ⟨(by show 1 ≤ sizeLine; decide), fun p hp => bad (.inr hc2) p hp⟩
  · exact ⟨(by show 1 ≤ sizeLine; decide), fun p hp => bad (.inl hc) p hp⟩
end
end Ov
/-! total_change, order_of_least_change -/
namespace Ov
open PySem PySem.Spec PyProof.Rows L2 LamX NdefX OvS Ovb
abbrev chg (s : Nat) (l : List Nat) : Nat × Nat := l.foldl (fun (acc : Nat × Nat) t => (acc.1 + Sr99.difference t acc.2, t)) (0, s)
theorem sorted_is {ts : List Nat} {ns : List Int} (p : ns.Perm (ts.map fun (x : Nat) => (x : Int))) (s : ns.Pairwise (· ≤ ·)) : ns = (sortN ts).map fun (x : Nat) => (x : Int) := by
  have hn : ∀ x ∈ ns, 0 ≤ x := fun x hx => by
    obtain ⟨y, _, rfl⟩ := List.mem_map.mp (p.mem_iff.mp hx)
    omega
  have e1 : (ns.map Int.toNat).map (fun (x : Nat) => (x : Int)) = ns := by
    rw [List.map_map]
    conv => rhs; rw [← List.map_id ns]
    refine List.map_congr_left fun x hx => ?_
    show ((x.toNat : Nat) : Int) = x
    exact Int.toNat_of_nonneg (hn x hx)
  have p2 : (ns.map Int.toNat).Perm ts := by
    have := p.map Int.toNat
    rw [List.map_map] at this
    have e2 : (ts.map (Int.toNat ∘ fun (x : Nat) => (x : Int))) = ts := by
      conv => rhs; rw [← List.map_id ts]
      exact List.map_congr_left fun x _ => Int.toNat_natCast x
    rw [e2] at this
    exact this
  have s2 : (ns.map Int.toNat).Pairwise (· ≤ ·) := by
    rw [List.pairwise_map]
    exact s.imp fun {a b} h => by omega
  have e3 := up_uniq s2 (sortN_all ts).1 (p2.trans (sortN_all ts).2.symm)
  rw [← e3, e1]
theorem sorted_rev_is {ts : List Nat} {ns : List Int} (p : ns.Perm (ts.map fun (x : Nat) => (x : Int))) (s : ns.Pairwise (· ≥ ·)) : ns = ((sortN ts).reverse).map fun (x : Nat) => (x : Int) := by
  have e := sorted_is (ns := ns.reverse) ((List.reverse_perm ns).trans p) (by rw [List.pairwise_reverse]; exact s)
  rw [List.map_reverse, ← e, List.reverse_reverse]
def spTotal : Sp := fun vs H Q _ => ∃ (s : Nat) (l : Addr) (ts : List Nat), vs = [.int (s : Int), .ref l] ∧ H l = some (.lst (nats ts)) ∧ Q (.int ((Sr99.totalChange s ts : Nat) : Int)) H
theorem scTotal : FnScope ["start", "degrees", "change", "before", "temperature"] ["start", "degrees"] (defScope sTotal) := ⟨rfl, rfl, rfl, by decide +kernel, rfl, by decide +kernel, by decide +kernel⟩
def spLeast : Sp := fun vs H Q _ => ∃ (s : Nat) (l : Addr) (ts : List Nat), vs = [.int (s : Int), .ref l] ∧ H l = some (.lst (nats ts)) ∧ ∀ (H' : Hp) (p : Addr), Same H H' → H p = none → H' p = some (.lst (nats (bestN s ts))) → Q (.ref p) H'
theorem scLeast : FnScope ["start", "degrees", "ascending", "descending"] ["start", "degrees"] (defScope sLeast) := ⟨rfl, rfl, rfl, by decide +kernel, rfl, by decide +kernel, by decide +kernel⟩
section
variable {P : Program} {w : World} {K : PySem.W.Frag} {mg : Str → Option Value} {base : Heap} {CP CO CR : Addr}
theorem ok_total {f : Addr} {fd : FuncData} (F : Fun K "total_change" "total_change" sTotal f fd) (T : Txt K mg CP CO CR) : FnOk P w K mg base CX0 1 f fd ["start", "degrees"] spTotal := by
  refine F.ok scTotal (fun vs H Q E h => ?_) (fun cdv A outer s H vs Q E hr h => ⟨_, pss_cons (ps_set (i := 2) scTotal.nd rfl (Or.inl rfl) pe_int) (pss_cons (ps_set (i := 3) scTotal.nd rfl (Or.inl rfl) (pv 0))
    (pss_cons (ps_for PassesOwn.never rfl (pi_list (pv 1)) (pg_name (i := 4) scTotal.nd rfl (Or.inl rfl))
      (pss_cons (ps_set (i := 2) scTotal.nd rfl (Or.inl rfl) (pe_op op_add (pv 2) (pe_callB call_abs (by rfl) T.abs (by decide +kernel) (pa_cons (pe_op op_sub (pv 4) (pv 3)) pa_nil))))
      (pss_one (ps_set (i := 3) scTotal.nd rfl (Or.inl rfl) (pv 4)))))
    (pss_one (ps_ret (pv 2))))), ?_⟩)
  · obtain ⟨s, l, ts, rfl, _⟩ := h
    rfl
  · obtain ⟨s, l, ts, rfl, hl, q⟩ := h
    refine ⟨_, rfl, _, rfl, l, rfl, ⟨_, SqL.of hl⟩, for_list (K := K) (a := l) (xs := nats ts) (fun j σ H' => ∃ v, σ = [some (.int (s : Int)), some (.ref l), some (.int ((chg s (ts.take j)).1 : Int)), some (.int ((chg s (ts.take j)).2 : Int)), v] ∧ H' = H)
      ⟨none, rfl, rfl⟩ (fun j σ H' _ ⟨_, _, z⟩ => by rw [z]; exact SqL.of hl) (fun j y σ H' hj hP => ?_) (fun σ H' hP => ?_)⟩
    · obtain ⟨v, rfl, rfl⟩ := hP
      obtain ⟨i, hi, rfl⟩ := nats_get hj
      have hst : chg s (ts.take (j + 1)) = ((chg s (ts.take j)).1 + Sr99.difference i (chg s (ts.take j)).2, i) := by
        show List.foldl _ _ _ = _
        rw [take_more hi, List.foldl_append]
        rfl
      rw [hst]
      generalize chg s (ts.take j) = st
      refine ⟨_, rfl, _, rfl, _, rfl, _, _, rfl, rfl, _, rfl, _, _, rfl, rfl, _, rfl, some (.int (i : Int)), ?_, rfl⟩
      have ed := diff_eq i st.2
      have ez : ((st.1 : Nat) : Int) + (if ((i : Nat) : Int) - ((st.2 : Nat) : Int) < 0 then -(((i : Nat) : Int) - ((st.2 : Nat) : Int)) else ((i : Nat) : Int) - ((st.2 : Nat) : Int)) = ((st.1 + Sr99.difference i st.2 : Nat) : Int) := by
        rw [Int.natCast_add, ed]
        by_cases c : (i : Int) < (st.2 : Int)
        · rw [if_pos c, if_pos (by omega)]
          omega
        · rw [if_neg c, if_neg (by omega)]
      show [some (V.int (s : Int)), some (V.ref l), some (V.int (((st.1 : Nat) : Int) + (if ((i : Nat) : Int) - ((st.2 : Nat) : Int) < 0 then -(((i : Nat) : Int) - ((st.2 : Nat) : Int)) else ((i : Nat) : Int) - ((st.2 : Nat) : Int)))), some (V.int (i : Int)), some (V.int (i : Int))] = _
      rw [ez]
    · obtain ⟨v, rfl, rfl⟩ := hP
      rw [nats_len, List.take_length]
      exact ⟨_, rfl, q⟩
theorem ok_least {f ft : Addr} {fd fdt : FuncData} (F : Fun K "order_of_least_change" "order_of_least_change" sLeast f fd) (T : Txt K mg CP CO CR) (DT : Def P w K mg base "total_change" 1 ["start", "degrees"] spTotal ft fdt) : FnOk P w K mg base CX0 2 f fd ["start", "degrees"] spLeast := by
  refine F.ok scLeast (fun vs H Q E h => ?_) (fun cdv A outer s H vs Q E hr h => ⟨_, pss_cons (ps_set (i := 2) scLeast.nd rfl (Or.inl rfl) (pe_callB cr_sortedI (by rfl) T.sorted (by decide +kernel) (pa_cons (pv 1) pa_nil)))
    (pss_cons (ps_set (i := 3) scLeast.nd rfl (Or.inl rfl) (pe_callBK (cr_sortedRev (b := true)) (by rfl) T.sorted (by decide +kernel) (pa_cons (pv 1) pa_nil) (pk_cons pe_bl pk_nil)))
    (pss_cons (ps_if (pt_cmpR op_lt (pe_def DT hr (by decide) rfl (pa_cons (pv 0) (pa_cons (pv 3) pa_nil))) (pe_def DT hr (by decide) rfl (pa_cons (pv 0) (pa_cons (pv 2) pa_nil))) (nomark _)) (pss_one (ps_ret (pv 3))) pss_nil)
    (pss_one (ps_ret (pv 2))))), ?_⟩)
  · obtain ⟨s, l, ts, rfl, _⟩ := h
    rfl
  · obtain ⟨s, l, ts, rfl, hl, k⟩ := h
    refine ⟨_, rfl, l, ts.map fun (x : Nat) => (x : Int), rfl, by rw [nats_ints]; exact SqL.of hl, fun ns p hp hs np => ?_⟩
    rw [sorted_is hp hs, nats_ints]
    have s1 : Same H (upd H p (.lst (nats (sortN ts)))) := same_upd (Same.refl H) np
    have hp1 : upd H p (.lst (nats (sortN ts))) p = some (.lst (nats (sortN ts))) := upd_same
    generalize upd H p (.lst (nats (sortN ts))) = H1 at s1 hp1
    refine ⟨_, rfl, l, ts.map fun (x : Nat) => (x : Int), rfl, rfl, by rw [nats_ints]; exact SqL.of (s1 l _ hl), fun ns2 p2 hp2 hs2 np2 => ?_⟩
    rw [sorted_rev_is hp2 hs2, nats_ints]
    have nq : H p2 = none := by
      cases e : H p2 with
      | none => rfl
      | some u => rw [s1 p2 u e] at np2; cases np2
    have s2 : Same H (upd H1 p2 (.lst (nats (sortN ts).reverse))) := same_upd s1 nq
    have hq1 : upd H1 p2 (.lst (nats (sortN ts).reverse)) p2 = some (.lst (nats (sortN ts).reverse)) := upd_same
    have hq2 : upd H1 p2 (.lst (nats (sortN ts).reverse)) p = some (.lst (nats (sortN ts))) := (upd_ne (ne_of_none hp1 np2)).trans hp1
    generalize upd H1 p2 (.lst (nats (sortN ts).reverse)) = H2 at s2 hq1 hq2
    refine ⟨_, rfl, _, rfl, s, p2, _, rfl, hq1, _, rfl, _, rfl, s, p, _, rfl, hq2, _, _, rfl, rfl, _, rfl, ?_⟩
    refine ite2 (fun c => ?_) fun c => ?_
    · have c' : Sr99.totalChange s (sortN ts).reverse < Sr99.totalChange s (sortN ts) := by
        have := of_decide_eq_true c
        omega
      refine ⟨_, rfl, k H2 p2 s2 nq ?_⟩
      rw [hq1]
      unfold bestN
      rw [if_pos c']
    · have c' : ¬ Sr99.totalChange s (sortN ts).reverse < Sr99.totalChange s (sortN ts) := fun z => c (decide_eq_true (by omega))
      refine ⟨_, rfl, k H2 p s2 np ?_⟩
      rw [hq2]
      unfold bestN
      rw [if_neg c']
end
end Ov
/-! min(xs, default=d) of a list of ints: the library's min_list_datum_default, said of the layer's heap -/
namespace OvM
open PySem PySem.Spec PyProof.Rows L2
/-- the library's least of ints is one of them, and none is less -/
theorem least_of : ∀ (r : List Int) (x : Int), PySem.W.minOf x r ∈ x :: r ∧ ∀ y ∈ x :: r, PySem.W.minOf x r ≤ y
  | [], x => ⟨by simp [PySem.W.minOf], fun y hy => by rw [List.mem_singleton.mp hy]; exact Int.le_refl _⟩
  | z :: r, x => by
    by_cases c : z < x
    · have e : PySem.W.minOf x (z :: r) = PySem.W.minOf z r := by
        show List.foldl _ (if decide (z < x) = true then z else x) r = _
        rw [if_pos (decide_eq_true c)]
        rfl
      obtain ⟨m1, m2⟩ := least_of r z
      rw [e]
      refine ⟨List.mem_cons_of_mem _ m1, fun y hy => ?_⟩
      have := m2 z (by simp)
      rcases List.mem_cons.mp hy with rfl | q
      · omega
      · exact m2 y q
    · have e : PySem.W.minOf x (z :: r) = PySem.W.minOf x r := by
        show List.foldl _ (if decide (z < x) = true then z else x) r = _
        rw [if_neg (fun t => c (of_decide_eq_true t))]
        rfl
      obtain ⟨m1, m2⟩ := least_of r x
      rw [e]
      have hx := m2 x (by simp)
      refine ⟨?_, fun y hy => ?_⟩
      · rcases List.mem_cons.mp m1 with q | q
        · rw [q]; simp
        · simp [q]
      · rcases List.mem_cons.mp hy with rfl | q
        · exact hx
        · rcases List.mem_cons.mp q with rfl | q
          · omega
          · exact m2 y (by simp [q])
/-- what min(xs, default=d) asks and gives: of the empty list d -/
def rMinD (K : PySem.W.Frag) (d : Int) : List V → List V → Hp → VK → Prop := fun vs zs H Q => ∃ (a : Addr) (ns : List Int), vs = [V.ref a] ∧ zs = [V.int d] ∧ SqL K H a (ns.map V.int) ∧
  ∀ m, (ns = [] → m = d) → (ns ≠ [] → m ∈ ns) → (∀ y, y ∈ ns → m ≤ y) → Q (.int m) H
theorem cr_minD {X : Cx} {d : Int} (hc : X.calm = true) (hu : X.A.units + 1 < cLine) : CallRK X (.builtin "min") [Str.ofString "default"] (rMinD X.K d) := fun pins s σ H vs zs us ws Q I r rz ⟨a, ns, e1, e2, hs, q⟩ => by
  subst e1 e2
  obtain rfl := Vals.ref1 r
  obtain ⟨u, rfl, td, rfl⟩ := vals1 rz
  obtain ⟨its, rv, hl, -⟩ := I.list hs
  refine PySem.W.min_list_datum_default (xs := ns) (I.ok.hd hc) hl.isList (PySem.W.HoldAll.of_ints rv.ints) hu (fun e0 h' tk hk => ?_) fun y ys i v h' tk e0 _ hv hk => ?_
  · exact ⟨.int d, H, I.kept hk, ⟨td, rfl⟩, q d (fun _ => rfl) (fun z => absurd e0 z) fun y hy => by rw [e0] at hy; cases hy⟩
  · subst e0
    obtain ⟨as, rd⟩ := hv
    obtain ⟨m1, m2⟩ := least_of ys y
    obtain ⟨t, rfl⟩ : ∃ t, v = Value.int (PySem.W.minOf y ys) t := by
      have rd' : Reads h' v (PyData.int (PySem.W.minOf y ys)) as := rd
      cases rd' with
      | int _ t => exact ⟨t, rfl⟩
    exact ⟨.int (PySem.W.minOf y ys), H, I.kept hk, ⟨t, rfl⟩, q _ (fun z => nomatch z) (fun _ => m1) m2⟩
end OvM
/-! solution: is_list_of_batches, batches_in, can_be_baked_together, hold_all_tins, is_solution -/
namespace Ov
open PySem PySem.Spec PyProof.Rows L2 LamX NdefX OvS Ovb OvM
theorem range_groups {m n : Nat} (h : m * (n + 1) ≤ 70) (hn : n ≤ 6) : RgC 0 ((m * (n + 1) : Nat) : Int) (1 + (n : Int)) m := by
  have hc : (1 : Int) + (n : Int) > 0 := by omega
  have hsz : Builtin.Range.rangeSize 0 ((m * (n + 1) : Nat) : Int) (1 + (n : Int)) = m := by
    unfold Builtin.Range.rangeSize
    rw [if_pos hc]
    cases m with
    | zero =>
      rw [if_neg (by simp)]
      rfl
    | succ k =>
      have e1 : ((k + 1) * (n + 1) : Nat) = k * (n + 1) + (n + 1) := Nat.succ_mul ..
      rw [if_pos (by rw [e1]; omega)]
      have e2 : (((k + 1) * (n + 1) : Nat) : Int) - 0 - 1 = (n : Int) + (k : Int) * (1 + (n : Int)) := by
        rw [e1, Int.natCast_add, Int.natCast_mul]
        have : ((n + 1 : Nat) : Int) = 1 + (n : Int) := by omega
        rw [this]
        omega
      rw [e2, Int.add_mul_ediv_right _ _ (by omega), Int.ediv_eq_zero_of_lt (by omega) (by omega)]
      omega
  refine ⟨by omega, by omega, ?_, hsz⟩
  unfold Builtin.Range.small
  rw [hsz]
  have hm : m ≤ 70 := Nat.le_trans (Nat.le_mul_of_pos_right m (Nat.succ_pos n)) h
  simp only [Builtin.Range.rangeFitsLong, Bool.and_eq_true, Bool.or_eq_true, decide_eq_true_eq, beq_iff_eq, if_pos hc]
  refine ⟨⟨⟨⟨?_, ?_⟩, ?_, ?_⟩, ?_, ?_⟩, ?_⟩ <;> first | omega | (right; constructor <;> omega)
def holdB (o : Sr99.Oven) (bs : List Sr99.Batch) : Bool := (List.range o.products.length).all fun i => SrCommon.sum (bs.map fun b => b.tins.getD i 0) == (Sr99.productAt o i).tins
theorem sol_eq (o : Sr99.Oven) (bs : List Sr99.Batch) : Sr99.isSolution o bs = (bs.all (Sr99.isBatch o) && holdB o bs) := rfl
def listB (n : Nat) (ns : List Int) : Bool := decide (ns.length % (n + 1) = 0) && ns.all fun x => decide (0 ≤ x)
def spIsList (K : PySem.W.Frag) : Sp := fun vs H Q _ => ∃ (nl l : Addr) (xs : List V) (ns : List Int), vs = [.ref nl, .ref l] ∧ H nl = some (.lst (ns.map V.int)) ∧ H l = some (.lst xs) ∧ Q (.bl (listB xs.length ns)) H
theorem scIsList : FnScope ["numbers", "products"] ["numbers", "products"] (defScope sIsList) := ⟨rfl, rfl, rfl, by decide +kernel, rfl, by decide +kernel, by decide +kernel⟩
def spBIn : Sp := fun vs H Q _ => ∃ (nl l : Addr) (xs : List V) (ns : List Int) (m : Nat), vs = [.ref nl, .ref l] ∧ H nl = some (.lst (ns.map V.int)) ∧ H l = some (.lst xs) ∧ xs.length ≤ 6 ∧ ns.length = m * (xs.length + 1) ∧ ns.length ≤ 70 ∧ (∀ x ∈ ns, 0 ≤ x) ∧
  ∀ (H' : Hp) (p : Addr) (ws : List V), Same H H' → H p = none → H' p = some (.lst ws) → BatchesAt H' ws (chunks xs.length m ns) → Q (.ref p) H'
theorem scBIn : FnScope ["numbers", "products", "size", "at"] ["numbers", "products"] (defScope sBatchesIn) := ⟨rfl, rfl, rfl, by decide +kernel, rfl, by decide +kernel, by decide +kernel⟩
def spTog (CP : Addr) : Sp := fun vs H Q _ => ∃ (l q : Addr) (xs : List V) (o : Sr99.Oven) (b : Sr99.Batch), vs = [.ref l, .int (o.capacity : Int), .int (b.temperature : Int), .ref q] ∧ H l = some (.lst xs) ∧ ProdsAt CP H xs o.products ∧ o.products.length ≤ 6 ∧ H q = some (.lst (nats b.tins)) ∧ b.tins.length = o.products.length ∧ Q (.bl (Sr99.isBatch o b)) H
theorem scTog : FnScope ["products", "capacity", "temperature", "tins", "i"] ["products", "capacity", "temperature", "tins"] (defScope sTogether) := ⟨rfl, rfl, rfl, by decide +kernel, rfl, by decide +kernel, by decide +kernel⟩
def spHold (CP : Addr) : Sp := fun vs H Q _ => ∃ (bl l : Addr) (ws xs : List V) (bs : List Sr99.Batch) (o : Sr99.Oven), vs = [.ref bl, .ref l] ∧ H bl = some (.lst ws) ∧ BatchesAt H ws bs ∧ bs.length ≤ 70 ∧ (∀ b ∈ bs, b.tins.length = o.products.length) ∧ H l = some (.lst xs) ∧ ProdsAt CP H xs o.products ∧ o.products.length ≤ 6 ∧
  ∀ H' : Hp, Same H H' → Q (.bl (holdB o bs)) H'
theorem scHold : FnScope ["batches", "products", "i", "batch"] ["batches", "products"] (defScope sHold) := ⟨rfl, rfl, rfl, by decide +kernel, rfl, by decide +kernel, by decide +kernel⟩
def spIsSol (CP : Addr) : Sp := fun vs H Q _ => ∃ (bl l : Addr) (ws xs : List V) (bs : List Sr99.Batch) (o : Sr99.Oven), vs = [.ref bl, .ref l, .int (o.capacity : Int)] ∧ H bl = some (.lst ws) ∧ BatchesAt H ws bs ∧ bs.length ≤ 70 ∧ (∀ b ∈ bs, b.tins.length = o.products.length) ∧ H l = some (.lst xs) ∧ ProdsAt CP H xs o.products ∧ o.products.length ≤ 6 ∧
  ∀ H' : Hp, Same H H' → Q (.bl (Sr99.isSolution o bs)) H'
theorem scIsSol : FnScope ["batches", "products", "capacity", "batch"] ["batches", "products", "capacity"] (defScope sIsSol) := ⟨rfl, rfl, rfl, by decide +kernel, rfl, by decide +kernel, by decide +kernel⟩
theorem BatchesAt.same {H H' : Hp} {ws : List V} {bs : List Sr99.Batch} (h : BatchesAt H ws bs) (s : Same H H') : BatchesAt H' ws bs := h.keep fun v b z => z.ext (same_ext s)
theorem all_more {p : Nat → Bool} {n : Nat} : ((List.range n).all p = true) ↔ ∀ i, i < n → p i = true := by
  rw [List.all_eq_true]
  exact ⟨fun h i hi => h i (List.mem_range.mpr hi), fun h i hi => h i (List.mem_range.mp hi)⟩
section
variable {P : Program} {w : World} {K : PySem.W.Frag} {mg : Str → Option Value} {base : Heap} {CP CO CR : Addr}
theorem ok_isList {f : Addr} {fd : FuncData} (F : Fun K "is_list_of_batches" "is_list_of_batches" sIsList f fd) (T : Txt K mg CP CO CR) : FnOk P w K mg base CX0 1 f fd ["numbers", "products"] (spIsList K) := by
  refine F.ok scIsList (fun vs H Q E h => ?_) (fun cdv A outer s H vs Q E hr h => ⟨_, pss_one (ps_ret (pe_and (pe_cmpR op_eq (pe_op op_mod (pe_callB call_len_seq (by rfl) T.len PySem.boot_len (pa_cons (pv 0) pa_nil)) (pe_op op_add pe_int (pe_callB call_len_seq (by rfl) T.len PySem.boot_len (pa_cons (pv 1) pa_nil)))) pe_int (nomark _))
    (pe_one (pe_cmpR op_ge (pe_callBK (cr_minD (d := 0) rfl (hu_of hr)) (by rfl) T.min PyProof.Rows.boot_min (pa_cons (pv 0) pa_nil) (pk_cons pe_int pk_nil)) pe_int (nomark _))))), ?_⟩)
  · obtain ⟨nl, l, xs, ns, rfl, _⟩ := h
    rfl
  · obtain ⟨nl, l, xs, ns, rfl, hn, hl, q⟩ := h
    refine ⟨_, rfl, nl, _, rfl, .inl (SqL.of hn), _, rfl, l, _, rfl, .inl (SqL.of hl), _, _, rfl, rfl, _, _, rfl, rfl, (by show (0 : Int) < 1 + (xs.length : Int); omega), rfl, _, rfl, ?_⟩
    have e1 : ((((ns.map V.int).length : Nat) : Int) % (1 + (xs.length : Int)) = 0) ↔ ns.length % (xs.length + 1) = 0 := by
      rw [List.length_map]
      have e2 : (1 + (xs.length : Int)) = ((xs.length + 1 : Nat) : Int) := by omega
      rw [e2, ← Int.natCast_emod]
      omega
    refine ite2 (fun c => ?_) fun c => ?_
    · have c' := of_decide_eq_true c
      injection c' with c''
      have c3 := e1.mp c''
      refine ⟨_, rfl, nl, ns, rfl, rfl, SqL.of hn, fun m h0 h1 h2 => ⟨_, _, rfl, rfl, ?_⟩⟩
      have e4 : listB xs.length ns = decide (0 ≤ m) := by
        unfold listB
        rw [decide_eq_true c3, Bool.true_and]
        by_cases hm : 0 ≤ m
        · rw [decide_eq_true hm]
          exact List.all_eq_true.mpr fun x hx => decide_eq_true (Int.le_trans hm (h2 x hx))
        · rw [decide_eq_false hm]
          have hne : ns ≠ [] := fun z => hm (by rw [h0 z]; exact Int.le_refl _)
          exact List.all_eq_false.mpr ⟨m, h1 hne, by simpa using hm⟩
      rw [e4] at q
      exact q
    · have e4 : listB xs.length ns = false := by
        unfold listB
        rw [decide_eq_false (fun z => c (decide_eq_true (congrArg V.int (e1.mpr z)))), Bool.false_and]
      rw [e4] at q
      exact q
theorem cut_mid {ns : List Int} {k n : Nat} (h : k + 1 + n ≤ ns.length) {i j : Int} (hi : i = ((k + 1 : Nat) : Int)) (hj : j = ((k + 1 + n : Nat) : Int)) : cutV (ns.map V.int) (some i) (some j) = ((ns.drop (k + 1)).take n).map V.int := by
  subst hi
  subst hj
  unfold cutV
  rw [HT.sIx_nat, HT.sIx_nat, List.length_map, Nat.min_eq_left (by omega), Nat.min_eq_left (by omega), ← List.map_drop, ← List.map_take]
  congr 2
  omega
theorem ints_nats {l : List Int} (h : ∀ x ∈ l, 0 ≤ x) : l.map V.int = nats (SrCommon.intsToNats l) := by
  unfold nats SrCommon.intsToNats
  rw [List.map_map]
  refine List.map_congr_left fun x hx => ?_
  show V.int x = V.int ((x.toNat : Nat) : Int)
  rw [Int.toNat_of_nonneg (h x hx)]
theorem ok_bIn {f : Addr} {fd : FuncData} (F : Fun K "batches_in" "batches_in" sBatchesIn f fd) (T : Txt K mg CP CO CR) : FnOk P w K mg base CX0 1 f fd ["numbers", "products"] spBIn := by
  refine F.ok scBIn (fun vs H Q E h => ?_) (fun cdv A outer s H vs Q E hr h => ⟨_, pss_cons (ps_set (i := 2) scBIn.nd rfl (Or.inr rfl) (pe_op op_add pe_int (pe_callB call_len_seq (by rfl) T.len PySem.boot_len (pa_cons (pv 1) pa_nil))))
    (pss_one (ps_ret (pe_lc (own := [("at", 3)]) (g := gName 3) (tt := tYes) (te := tTup (tCons (tOp (rIxL K) (tVar 0) (tVar 3)) (tCons (tSl (rSlL K) (tVar 0) (tPart (tOp (rI0 fun i j => .int (i + j)) (tVar 3) (tC (.int 1)))) (tPart (tOp (rI0 fun i j => .int (i + j)) (tVar 3) (tVar 2)))) tNil))) rfl scBIn.nd
      (pi_range3 rfl T.range (pa_cons pe_int (pa_cons (pe_callB call_len_seq (by rfl) T.len PySem.boot_len (pa_cons (pv 0) pa_nil)) (pa_cons (pv 2) pa_nil))))
      (blkOk_by (own := [("at", 3)]) (N := ["numbers", "products", "size", "at"]) (sc := defScope sBatchesIn) (by decide +kernel))
      (fun _ _ _ _ _ => pg_name (i := 3) scBIn.nd rfl (Or.inl rfl)) (fun _ _ _ _ _ => pts_nil)
      (fun _ _ _ _ _ => pe_tup (pa_cons (pe_ix ix_list (pv 0) (pv 3) (fun _ _ => rfl)) (pa_cons (pe_slice sl_list (pv 0) (po_some (pe_op op_add (pv 3) pe_int)) (po_some (pe_op op_add (pv 3) (pv 2)))) pa_nil)))))), ?_⟩)
  · obtain ⟨nl, l, xs, ns, m, rfl, _⟩ := h
    rfl
  · obtain ⟨nl, l, xs, ns, m, rfl, hn, hl, few, hm, h70, hpos, k⟩ := h
    refine ⟨_, rfl, l, _, rfl, .inl (SqL.of hl), _, _, rfl, rfl, ?_⟩
    have hrg : RgC 0 (((ns.map V.int).length : Nat) : Int) (1 + (xs.length : Int)) m := by
      rw [List.length_map, hm]
      exact range_groups (by rw [← hm]; exact h70) few
    refine ⟨_, rfl, nl, _, rfl, .inl (SqL.of hn), _, rfl, _, _, _, m, rfl, hrg, fun D hD => ?_⟩
    have hcl := chunks_len xs.length m ns hm
    have m70 : m ≤ 70 := Nat.le_trans (Nat.le_mul_of_pos_right m (Nat.succ_pos xs.length)) (by rw [← hm]; exact h70)
    refine lc_it (walk_rangeC (lo := 0) (c := 1 + (xs.length : Int)) (n := m)) (fun i H' => Same H H' ∧ ∃ ws, H' D = some (.lst ws) ∧ BatchesAt H' ws ((chunks xs.length m ns).take i)) ⟨same_upd (Same.refl H) hD, [], upd_same, BatchesAt.nil⟩ (fun _ _ _ _ => trivial) (fun i x H0 H' hi ⟨sm0, ws0, hd0, hB0⟩ hy => ?_) (fun H' ⟨sm, ws, hd, hB⟩ => ?_)
    · obtain ⟨rfl, ex⟩ := hy
      have sm := sm0
      have hd := hd0
      have hB := hB0
      generalize ws0 = ws at hd hB
      have ek : (0 : Int) + ((i : Nat) : Int) * (1 + (xs.length : Int)) = ((i * (xs.length + 1) : Nat) : Int) := by
        rw [Int.natCast_mul]
        have : ((xs.length + 1 : Nat) : Int) = 1 + (xs.length : Int) := by omega
        rw [this]
        omega
      have ex2 : x = V.int ((i * (xs.length + 1) : Nat) : Int) := ex.trans (congrArg V.int ek)
      subst ex2
      have hfit : i * (xs.length + 1) + 1 + xs.length ≤ ns.length := by
        have h1 : (i + 1) * (xs.length + 1) ≤ m * (xs.length + 1) := Nat.mul_le_mul_right _ hi
        have h2 : (i + 1) * (xs.length + 1) = i * (xs.length + 1) + (xs.length + 1) := Nat.succ_mul ..
        omega
      have hat := chunks_at xs.length m ns i hm hi
      generalize hkk : i * (xs.length + 1) = kk at hat hfit
      have hix : (ns.map V.int)[kk]? = some (.int (ns.getD kk 0)) := by
        rw [List.getElem?_map, List.getD_eq_getElem?_getD, List.getElem?_eq_getElem (by omega)]
        rfl
      refine ⟨rfl, _, rfl, _, rfl, nl, _, (kk : Int), _, rfl, rfl, SqL.of (sm nl _ hn), atI_nat hix, ?_⟩
      refine ⟨_, rfl, _, rfl, _, _, rfl, rfl, _, rfl, _, rfl, _, rfl, _, _, rfl, rfl, _, rfl, nl, _, rfl, SqL.of (sm nl _ hn), fun p hp => ?_⟩
      rw [cut_mid (k := kk) (n := xs.length) (by omega) (by omega) (by omega), ints_nats fun x hx => hpos x (List.mem_of_mem_drop (List.mem_of_mem_take hx))]
      have np : H p = none := by
        cases e : H p with
        | none => rfl
        | some u => rw [sm p u e] at hp; cases hp
      have npD : p ≠ D := Ne.symm (ne_of_none hd hp)
      have s1 : Same H (upd H' p (.lst (nats (SrCommon.intsToNats ((ns.drop (kk + 1)).take xs.length))))) := same_upd sm np
      have hp1 : upd H' p (.lst (nats (SrCommon.intsToNats ((ns.drop (kk + 1)).take xs.length)))) p = some (.lst (nats (SrCommon.intsToNats ((ns.drop (kk + 1)).take xs.length)))) := upd_same
      have hd1 : upd H' p (.lst (nats (SrCommon.intsToNats ((ns.drop (kk + 1)).take xs.length)))) D = some (.lst ws) := (upd_ne (ne_of_none hd hp)).trans hd
      have hB1 : BatchesAt (upd H' p (.lst (nats (SrCommon.intsToNats ((ns.drop (kk + 1)).take xs.length))))) ws ((chunks xs.length m ns).take i) := hB.keep fun v b z => z.ext (ext_upd hp)
      generalize upd H' p (.lst (nats (SrCommon.intsToNats ((ns.drop (kk + 1)).take xs.length)))) = H1 at s1 hp1 hd1 hB1
      refine ⟨(by show 2 ≤ sizeLine; decide), fun t ht => ?_⟩
      have nt : H t = none := by
        cases e : H t with
        | none => rfl
        | some u => rw [s1 t u e] at ht; cases ht
      have hx0 : V.int (ns.getD kk 0) = V.int (((ns.getD kk 0).toNat : Nat) : Int) := by
        rw [Int.toNat_of_nonneg]
        rw [List.getD_eq_getElem?_getD, List.getElem?_eq_getElem (by omega)]
        exact hpos _ (List.getElem_mem (by omega))
      rw [hx0]
      have bt1 : upd H1 t (.tup [V.int (((ns.getD kk 0).toNat : Nat) : Int), .ref p]) t = some (.tup [V.int (((ns.getD kk 0).toNat : Nat) : Int), .ref p]) := upd_same
      have bt2 : upd H1 t (.tup [V.int (((ns.getD kk 0).toNat : Nat) : Int), .ref p]) p = some (.lst (nats (SrCommon.intsToNats ((ns.drop (kk + 1)).take xs.length)))) := (upd_ne (ne_of_none hp1 ht)).trans hp1
      have ntD : t ≠ D := Ne.symm (ne_of_none hd1 ht)
      have hd2 : upd H1 t (.tup [V.int (((ns.getD kk 0).toNat : Nat) : Int), .ref p]) D = some (.lst ws) := (upd_ne (ne_of_none hd1 ht)).trans hd1
      have hB2 : BatchesAt (upd H1 t (.tup [V.int (((ns.getD kk 0).toNat : Nat) : Int), .ref p])) ws ((chunks xs.length m ns).take i) := hB1.keep fun v b z => z.ext (ext_upd ht)
      have s2 : Same H (upd H1 t (.tup [V.int (((ns.getD kk 0).toNat : Nat) : Int), .ref p])) := same_upd s1 nt
      generalize upd H1 t (.tup [V.int (((ns.getD kk 0).toNat : Nat) : Int), .ref p]) = H2 at bt1 bt2 hd2 hB2 s2
      have hwl : ws.length = i := by
        rw [hB2.len, List.length_take, hcl]
        omega
      refine ⟨ws, hd2, by rw [hwl, sizeLine_eq]; omega, same_upd s2 hD, _, upd_same, ?_⟩
      rw [take_more hat]
      exact (hB2.write hd2).snoc ⟨t, p, rfl, (upd_ne ntD).trans bt1, (upd_ne npD).trans bt2⟩
    · rw [List.take_of_length_le (by rw [hcl]; exact Nat.le_refl _)] at hB
      exact k H' D ws sm hD hd hB
theorem baked_iff {o : Sr99.Oven} {i T : Nat} : isBaked o T i = true ↔ (Sr99.productAt o i).minTemperature ≤ T ∧ T ≤ (Sr99.productAt o i).maxTemperature := by
  unfold isBaked
  simp
theorem ok_tog {f fb : Addr} {fd fdb : FuncData} (F : Fun K "can_be_baked_together" "can_be_baked_together" sTogether f fd) (T : Txt K mg CP CO CR) (DB : Def P w K mg base "can_be_baked" 1 ["product", "temperature"] (spBaked CP) fb fdb) :
    FnOk P w K mg base CX0 2 f fd ["products", "capacity", "temperature", "tins"] (spTog CP) := by
  refine F.ok scTog (fun vs H Q E h => ?_) (fun cdv A outer s H vs Q E hr h => ⟨_, pss_cons (ps_if (pt_cmpR op_gt (pe_callB (cr_sum rfl) (by rfl) T.sum PyProof.Rows.boot_sum (pa_cons (pv 3) pa_nil)) (pv 1) (nomark _)) (pss_one (ps_ret pe_bl)) pss_nil)
    (pss_cons (ps_for PassesOwn.never rfl (pi_range1 rfl T.range (pa_cons (pe_callB call_len_seq (by rfl) T.len PySem.boot_len (pa_cons (pv 0) pa_nil)) pa_nil)) (pg_name (i := 4) scTog.nd rfl (Or.inl rfl))
      (pss_one (ps_if (PW.pt (pw_and (pt_cmpR op_gt (pe_ix ix_list (pv 3) (pv 4) (fun _ _ => rfl)) pe_int (nomark _)) (pw_and1 (pt_not (pt_val (pe_def DB hr (by decide) rfl (pa_cons (pe_ix ix_list (pv 0) (pv 4) (fun _ _ => rfl)) (pa_cons (pv 2) pa_nil))))))))
        (pss_one (ps_ret pe_bl)) pss_nil)))
    (pss_one (ps_ret pe_bl))), ?_⟩)
  · obtain ⟨l, q, xs, o, b, rfl, _⟩ := h
    rfl
  · obtain ⟨l, q, xs, o, b, rfl, hl, hps, few, hq, hbl, k⟩ := h
    refine ⟨_, rfl, q, b.tins.map fun (x : Nat) => (x : Int), rfl, SqL.of (by rw [nats_ints]; exact hq), _, rfl, _, _, rfl, rfl, _, rfl, ?_⟩
    rw [sum_int]
    have bad : ¬ (b.tins.length = o.products.length ∧ SrCommon.sum b.tins ≤ o.capacity ∧ ∀ i, i < o.products.length → b.tins.getD i 0 = 0 ∨ ((Sr99.productAt o i).minTemperature ≤ b.temperature ∧ b.temperature ≤ (Sr99.productAt o i).maxTemperature)) → Q (.bl false) H := fun z => by
      have e : Sr99.isBatch o b = false := Bool.eq_false_iff.mpr fun y => z ((batch_iff o b).mp y)
      rw [e] at k
      exact k
    refine ite2 (fun c => ?_) fun c => ?_
    · have c' := of_decide_eq_true c
      exact bad fun z => by omega
    · have c' : SrCommon.sum b.tins ≤ o.capacity := by
        have : ¬ ((o.capacity : Int) < (SrCommon.sum b.tins : Int)) := fun z => c (decide_eq_true z)
        omega
      refine ⟨_, rfl, l, _, rfl, .inl (SqL.of hl), _, rfl, by omega, by rw [hps.len]; omega, ?_⟩
      have en : ((xs.length : Nat) : Int).toNat = o.products.length := by rw [hps.len, Int.toNat_natCast]
      rw [en]
      refine for_range (lo := 0) (n := o.products.length) (fun j σ H' => ∃ v, σ = [some (.ref l), some (.int (o.capacity : Int)), some (.int (b.temperature : Int)), some (.ref q), v] ∧ H' = H ∧ ∀ i, i < j → b.tins.getD i 0 = 0 ∨ ((Sr99.productAt o i).minTemperature ≤ b.temperature ∧ b.temperature ≤ (Sr99.productAt o i).maxTemperature))
        ⟨none, rfl, rfl, fun i hi => absurd hi (Nat.not_lt_zero _)⟩ (fun j σ H' hj hP => ?_) (fun σ H' hP => ?_)
      · obtain ⟨v, rfl, rfl, hall⟩ := hP
        have e0 : (0 : Int) + (j : Int) = (j : Int) := by omega
        rw [e0]
        refine ⟨_, rfl, _, rfl, q, nats b.tins, (j : Int), _, rfl, rfl, SqL.of hq, atI_nat (nats_at (by omega)), _, _, rfl, rfl, _, rfl, ?_⟩
        have go : (b.tins.getD j 0 = 0 ∨ ((Sr99.productAt o j).minTemperature ≤ b.temperature ∧ b.temperature ≤ (Sr99.productAt o j).maxTemperature)) → ∃ v, ([some (.ref l), some (.int (o.capacity : Int)), some (.int (b.temperature : Int)), some (.ref q), some (.int (j : Int))] : L2.St) = [some (.ref l), some (.int (o.capacity : Int)), some (.int (b.temperature : Int)), some (.ref q), v] ∧ H' = H' ∧ ∀ i, i < j + 1 → b.tins.getD i 0 = 0 ∨ ((Sr99.productAt o i).minTemperature ≤ b.temperature ∧ b.temperature ≤ (Sr99.productAt o i).maxTemperature) := fun z =>
          ⟨_, rfl, rfl, fun i hi => by
            by_cases hij : i < j
            · exact hall i hij
            · have : i = j := by omega
              rw [this]
              exact z⟩
        refine ite2 (fun c => ?_) fun c => ?_
        · obtain ⟨a, dx, h1, h2⟩ := hps.field hj
          refine ⟨_, rfl, _, rfl, l, xs, (j : Int), _, rfl, rfl, SqL.of hl, atI_nat h1, _, rfl, a, _, (b.temperature : Int), rfl, ⟨dx, h2⟩, _, rfl, ?_⟩
          rw [baked_int]
          have c2 := of_decide_eq_true c
          refine not_bool (fun hb => ?_) fun hb => ?_
          · exact go (.inr (baked_iff.mp hb))
          · refine bad fun z => ?_
            rcases z.2.2 j hj with y | y
            · rw [y] at c2
              exact absurd c2 (by decide)
            · rw [baked_iff.mpr y] at hb
              cases hb
        · exact go (.inl (by
            have : ¬ ((0 : Int) < ((b.tins.getD j 0 : Nat) : Int)) := fun z => c (decide_eq_true z)
            omega))
      · obtain ⟨v, rfl, rfl, hall⟩ := hP
        have e : Sr99.isBatch o b = true := (batch_iff o b).mpr ⟨hbl, c', hall⟩
        rw [e] at k
        exact k
theorem ok_hold {f : Addr} {fd : FuncData} (F : Fun K "hold_all_tins" "hold_all_tins" sHold f fd) (T : Txt K mg CP CO CR) : FnOk P w K mg base CX0 1 f fd ["batches", "products"] (spHold CP) := by
  refine F.ok scHold (fun vs H Q E h => ?_) (fun cdv A outer s H vs Q E hr h => ⟨_, pss_cons (ps_for PassesOwn.never rfl (pi_range1 rfl T.range (pa_cons (pe_callB call_len_seq (by rfl) T.len PySem.boot_len (pa_cons (pv 1) pa_nil)) pa_nil)) (pg_name (i := 2) scHold.nd rfl (Or.inr rfl))
      (pss_one (ps_if (pt_cmpR op_ne (pe_callB (cr_sum rfl) (by rfl) T.sum PyProof.Rows.boot_sum (pa_cons
        (pe_lc (own := [("batch", 3)]) (g := gName 3) (tt := tYes) (te := tOp (rIxL K) (tOp (rIxT K) (tVar 3) (tC (.int 1))) (tVar 2)) rfl scHold.nd (pi_list (pv 0)) (blkOk_by (own := [("batch", 3)]) (N := ["batches", "products", "i", "batch"]) (sc := defScope sHold) (by decide +kernel))
          (fun _ _ _ _ _ => pg_name (i := 3) scHold.nd rfl (Or.inl rfl)) (fun _ _ _ _ _ => pts_nil) (fun _ _ _ _ _ => pe_ix ix_list (pe_ix ix_tup (pv 3) pe_int (fun _ _ => rfl)) (pv 2) (fun _ _ => rfl))) pa_nil))
        (pe_fld (pe_ix ix_list (pv 1) (pv 2) (fun _ _ => rfl)) rfl) (nomark _))
        (pss_one (ps_ret pe_bl)) pss_nil)))
    (pss_one (ps_ret pe_bl)), ?_⟩)
  · obtain ⟨bl, l, ws, xs, bs, o, rfl, _⟩ := h
    rfl
  · obtain ⟨bl, l, ws, xs, bs, o, rfl, hb, hB, h70, htl, hl, hps, few, k⟩ := h
    refine ⟨_, rfl, l, _, rfl, .inl (SqL.of hl), _, rfl, by omega, by rw [hps.len]; omega, ?_⟩
    have en : ((xs.length : Nat) : Int).toNat = o.products.length := by rw [hps.len, Int.toNat_natCast]
    rw [en]
    refine for_range (lo := 0) (n := o.products.length) (fun j σ H' => ∃ v, σ = [some (.ref bl), some (.ref l), v, none] ∧ Same H H' ∧ ∀ i, i < j → SrCommon.sum (bs.map fun b => b.tins.getD i 0) = (Sr99.productAt o i).tins)
      ⟨none, rfl, Same.refl H, fun i hi => absurd hi (Nat.not_lt_zero _)⟩ (fun j σ H' hj hP => ?_) (fun σ H' hP => ?_)
    · obtain ⟨v, rfl, sm, hall⟩ := hP
      have e0 : (0 : Int) + (j : Int) = (j : Int) := by omega
      rw [e0]
      refine ⟨_, rfl, bl, rfl, ⟨ws, SqL.of (sm bl _ hb)⟩, fun D hD => ?_⟩
      have nD : H D = none := by
        cases e : H D with
        | none => rfl
        | some u => rw [sm D u e] at hD; cases hD
      refine lc_list (K := K) (a := bl) (xs := ws) (fun i H2 => Same H H2 ∧ H2 D = some (.lst (nats ((bs.map fun b => b.tins.getD j 0).take i)))) ⟨same_upd sm nD, upd_same⟩
        (fun i H2 _ ⟨s2, _⟩ => SqL.of (s2 bl _ hb)) (fun i x H2 hxi ⟨s2, hd⟩ => ?_) (fun H2 ⟨s2, hd⟩ => ?_)
      · have hi : i < bs.length := by
          rw [← hB.len]
          exact (List.getElem?_eq_some_iff.mp hxi).1
        obtain ⟨v, v1, t, q, rfl, t1, q1⟩ := hB.at_ i _ (List.getElem?_eq_getElem hi)
        rw [hxi] at v1
        cases v1
        have hjl : j < bs[i].tins.length := by rw [htl _ (List.getElem_mem hi)]; exact hj
        refine ⟨rfl, _, rfl, t, _, 1, _, rfl, rfl, SqT.of (s2 t _ t1), at_of (j := 1) rfl rfl, _, rfl, q, _, (j : Int), _, rfl, rfl, SqL.of (s2 q _ q1), atI_nat (nats_at hjl), _, hd, ?_, same_upd s2 nD, ?_⟩
        · rw [nats_len, List.length_take, List.length_map, sizeLine_eq]
          omega
        · have e2 : (bs.map fun b => b.tins.getD j 0)[i]? = some (bs[i].tins.getD j 0) := by
            rw [List.getElem?_map, List.getElem?_eq_getElem hi]
            rfl
          have e3 : nats ((bs.map fun b => b.tins.getD j 0).take (i + 1)) = nats ((bs.map fun b => b.tins.getD j 0).take i) ++ [.int ((bs[i].tins.getD j 0 : Nat) : Int)] := by
            rw [take_more e2]
            unfold nats
            rw [List.map_append]
            rfl
          rw [e3]
          exact upd_same
      · rw [List.take_of_length_le (by rw [List.length_map, hB.len]; exact Nat.le_refl _)] at hd
        refine ⟨D, (bs.map fun b => b.tins.getD j 0).map fun (x : Nat) => (x : Int), rfl, SqL.of (by rw [nats_ints]; exact hd), ?_⟩
        obtain ⟨a, dx, h1, h2⟩ := (hps.ext (same_ext s2)).field hj
        refine ⟨_, rfl, _, rfl, l, xs, (j : Int), _, rfl, rfl, SqL.of (s2 l _ hl), atI_nat h1, a, CP, dx, _, _, rfl, h2, T.clP, T.pTin, pF_tins _, rfl, _, rfl, ?_⟩
        rw [sum_int]
        by_cases c : SrCommon.sum (bs.map fun b => b.tins.getD j 0) = (Sr99.productAt o j).tins
        · rw [c]
          rw [show (!decide (V.int (((Sr99.productAt o j).tins : Nat) : Int) = V.int (((Sr99.productAt o j).tins : Nat) : Int))) = false by rw [decide_eq_true rfl]; rfl]
          refine iteF ⟨_, rfl, s2, fun i hi => ?_⟩
          by_cases hij : i < j
          · exact hall i hij
          · have : i = j := by omega
            rw [this]
            exact c
        · rw [show (!decide (V.int ((SrCommon.sum (bs.map fun b => b.tins.getD j 0) : Nat) : Int) = V.int (((Sr99.productAt o j).tins : Nat) : Int))) = true by
            rw [decide_eq_false fun z => c (by injection z with z2; omega)]; rfl]
          refine iteT ?_
          have e : holdB o bs = false := Bool.eq_false_iff.mpr fun y => c (eq_of_beq (all_more.mp y j hj))
          have := k H2 s2
          rw [e] at this
          exact this
    · obtain ⟨v, rfl, sm, hall⟩ := hP
      have e : holdB o bs = true := all_more.mpr fun i hi => beq_iff_eq.mpr (hall i hi)
      have := k H' sm
      rw [e] at this
      exact this
theorem ok_isSol {f ft fh : Addr} {fd fdt fdh : FuncData} (F : Fun K "is_solution" "is_solution" sIsSol f fd) (T : Txt K mg CP CO CR) (DT : Def P w K mg base "can_be_baked_together" 2 ["products", "capacity", "temperature", "tins"] (spTog CP) ft fdt)
    (DH : Def P w K mg base "hold_all_tins" 1 ["batches", "products"] (spHold CP) fh fdh) : FnOk P w K mg base CX0 3 f fd ["batches", "products", "capacity"] (spIsSol CP) := by
  refine F.ok scIsSol (fun vs H Q E h => ?_) (fun cdv A outer s H vs Q E hr h => ⟨_, pss_cons (ps_for PassesOwn.never rfl (pi_list (pv 0)) (pg_name (i := 3) scIsSol.nd rfl (Or.inl rfl))
      (pss_one (ps_if (pt_not (pt_val (pe_def DT hr (by decide) rfl (pa_cons (pv 1) (pa_cons (pv 2) (pa_cons (pe_ix ix_tup (pv 3) pe_int (fun _ _ => rfl)) (pa_cons (pe_ix ix_tup (pv 3) pe_int (fun _ _ => rfl)) pa_nil))))))) (pss_one (ps_ret pe_bl)) pss_nil)))
    (pss_one (ps_ret (pe_def DH hr (by decide) rfl (pa_cons (pv 0) (pa_cons (pv 1) pa_nil))))), ?_⟩)
  · obtain ⟨bl, l, ws, xs, bs, o, rfl, _⟩ := h
    rfl
  · obtain ⟨bl, l, ws, xs, bs, o, rfl, hb, hB, h70, htl, hl, hps, few, k⟩ := h
    refine ⟨_, rfl, bl, rfl, ⟨_, SqL.of hb⟩, for_list (K := K) (a := bl) (xs := ws) (fun j σ H' => ∃ v, σ = [some (.ref bl), some (.ref l), some (.int (o.capacity : Int)), v] ∧ H' = H ∧ ∀ b ∈ bs.take j, Sr99.isBatch o b = true)
      ⟨none, rfl, rfl, fun b hb => by simp at hb⟩ (fun j σ H' _ ⟨_, _, z, _⟩ => by rw [z]; exact SqL.of hb) (fun j y σ H' hj hP => ?_) (fun σ H' hP => ?_)⟩
    · obtain ⟨v, rfl, rfl, hall⟩ := hP
      have hi : j < bs.length := by
        rw [← hB.len]
        exact (List.getElem?_eq_some_iff.mp hj).1
      obtain ⟨v, v1, t, q, rfl, t1, q1⟩ := hB.at_ j _ (List.getElem?_eq_getElem hi)
      rw [hj] at v1
      cases v1
      refine ⟨_, rfl, _, rfl, _, rfl, t, _, 0, _, rfl, rfl, SqT.of t1, at_of (j := 0) rfl rfl, _, rfl, t, _, 1, _, rfl, rfl, SqT.of t1, at_of (j := 1) rfl rfl, l, q, xs, o, bs[j], rfl, hl, hps, few, q1, htl _ (List.getElem_mem hi), _, rfl, ?_⟩
      refine not_bool (fun hc => ?_) fun hc => ?_
      · refine ⟨_, rfl, rfl, fun b hb2 => ?_⟩
        rw [take_more (List.getElem?_eq_getElem hi)] at hb2
        rcases List.mem_append.mp hb2 with z | z
        · exact hall b z
        · rw [List.mem_singleton.mp z]
          exact hc
      · have e : Sr99.isSolution o bs = false := by
          rw [sol_eq, Bool.and_eq_false_iff]
          exact .inl (List.all_eq_false.mpr ⟨bs[j], List.getElem_mem hi, by rw [hc]; simp⟩)
        have := k H' (Same.refl H')
        rw [e] at this
        exact this
    · obtain ⟨v, rfl, rfl, hall⟩ := hP
      refine ⟨_, rfl, _, rfl, bl, l, ws, xs, bs, o, rfl, hb, hB, h70, htl, hl, hps, few, fun H2 s2 => ?_⟩
      have e : Sr99.isSolution o bs = holdB o bs := by
        rw [List.take_of_length_le (by rw [hB.len]; exact Nat.le_refl _)] at hall
        rw [sol_eq, List.all_eq_true.mpr hall, Bool.true_and]
      have := k H2 s2
      rw [e] at this
      exact this
end
end Ov
/-! best_order, min_change, are_compatible, fill_batch, min_batches_if_tins, min_batches_if_capacity -/
namespace Ov
open PySem PySem.Spec PyProof.Rows L2 LamX NdefX OvS Ovb
theorem bestN_len (s : Nat) (l : List Nat) : (bestN s l).length = l.length := by
  unfold bestN
  split
  · rw [List.length_reverse]
    exact (sortN_all l).2.length_eq
  · exact (sortN_all l).2.length_eq
theorem bestN_change (s : Nat) (l : List Nat) : Sr99.totalChange s (bestN s l) = Sr99.minChange s l := by
  rw [minChange_two]
  unfold bestN
  split
  · rw [Nat.min_eq_right (by omega)]
  · rw [Nat.min_eq_left (by omega)]
theorem isTemp_iff {t : Int} : Sr99.isTemperature t = true ↔ 0 ≤ t ∧ t ≤ 400 := by
  show (decide (0 ≤ t) && decide (t ≤ 400)) = true ↔ _
  simp
theorem best_good {o : Sr99.Oven} {n : Nat} (h : Sr99.isTemperature (n : Int) = true) : Sr99.perform o (.bestOrder (n : Int)) = (none, ⟨((Sr99.totalChange n (bestN n (Sr99.temperaturesOf (Sr99.batches o))) : Nat) : Int), SrCommon.natsToInts (bestN n (Sr99.temperaturesOf (Sr99.batches o)))⟩) := by
  have e : Sr99.perform o (.bestOrder (n : Int)) = (none, if Sr99.isTemperature (n : Int) = false then .ofCode SrCommon.invalidArgument else ⟨((Sr99.totalChange n (Sr99.temperaturesOf (Sr99.orderBatches n (Sr99.batches o))) : Nat) : Int), SrCommon.natsToInts (Sr99.temperaturesOf (Sr99.orderBatches n (Sr99.batches o)))⟩) := rfl
  rw [e, if_neg (by rw [h]; simp), temps_best]
theorem best_bad {o : Sr99.Oven} {k : Int} (h : Sr99.isTemperature k = false) : Sr99.perform o (.bestOrder k) = (none, .ofCode (-22)) := by
  have e : Sr99.perform o (.bestOrder k) = (none, if Sr99.isTemperature k = false then .ofCode SrCommon.invalidArgument else ⟨((Sr99.totalChange k.toNat (Sr99.temperaturesOf (Sr99.orderBatches k.toNat (Sr99.batches o))) : Nat) : Int), SrCommon.natsToInts (Sr99.temperaturesOf (Sr99.orderBatches k.toNat (Sr99.batches o)))⟩) := rfl
  rw [e, if_pos h]
  rfl
theorem minc_good {o : Sr99.Oven} {n : Nat} (h : Sr99.isTemperature (n : Int) = true) : Sr99.perform o (.minChange (n : Int)) = (none, .ofCode ((Sr99.totalChange n (bestN n (Sr99.temperaturesOf (Sr99.batches o))) : Nat) : Int)) := by
  have e : Sr99.perform o (.minChange (n : Int)) = (none, if Sr99.isTemperature (n : Int) = false then .ofCode SrCommon.invalidArgument else Sr99.countResult (Sr99.minChange n (Sr99.temperaturesOf (Sr99.batches o)))) := rfl
  rw [e, if_neg (by rw [h]; simp), ← bestN_change]
  rfl
theorem minc_bad {o : Sr99.Oven} {k : Int} (h : Sr99.isTemperature k = false) : Sr99.perform o (.minChange k) = (none, .ofCode (-22)) := by
  have e : Sr99.perform o (.minChange k) = (none, if Sr99.isTemperature k = false then .ofCode SrCommon.invalidArgument else Sr99.countResult (Sr99.minChange k.toNat (Sr99.temperaturesOf (Sr99.batches o)))) := rfl
  rw [e, if_pos h]
  rfl
/-- best_order's own: a query -/
def spBest (K : PySem.W.Frag) (CP CO Pt : Addr) : Sp := fun vs H Q _ => ∃ (a l nl : Addr) (o : Sr99.Oven) (k : Int), vs = [.ref a, .ref nl] ∧ OvenAt CP CO H a l o ∧ Wf o ∧ SqL K H nl (([k] : List Int).map V.int) ∧ Tabs (TT Pt) H ∧
  ∀ (H' : Hp) (p : Addr), H' p = some (.lst (ansV (Sr99.perform o (.bestOrder k)).2)) → ExtN H H' → Tabs (TT Pt) H' → New H p → Q (.ref p) H'
theorem scBest : FnScope ["oven", "numbers", "start", "order"] ["oven", "numbers"] (defScope sBest) := ⟨rfl, rfl, rfl, by decide +kernel, rfl, by decide +kernel, by decide +kernel⟩
theorem scMinC : FnScope ["oven", "numbers"] ["oven", "numbers"] (defScope sMinC) := ⟨rfl, rfl, rfl, by decide +kernel, rfl, by decide +kernel, by decide +kernel⟩
theorem scCompat : FnScope ["oven", "numbers", "i", "j"] ["oven", "numbers"] (defScope sCompat) := ⟨rfl, rfl, rfl, by decide +kernel, rfl, by decide +kernel, by decide +kernel⟩
theorem scFillB : FnScope ["oven", "numbers", "temperature", "tins"] ["oven", "numbers"] (defScope sFillB) := ⟨rfl, rfl, rfl, by decide +kernel, rfl, by decide +kernel, by decide +kernel⟩
theorem scIfTins : FnScope ["oven", "numbers", "i", "tins"] ["oven", "numbers"] (defScope sIfTins) := ⟨rfl, rfl, rfl, by decide +kernel, rfl, by decide +kernel, by decide +kernel⟩
theorem scIfCap : FnScope ["oven", "numbers", "capacity"] ["oven", "numbers"] (defScope sIfCap) := ⟨rfl, rfl, rfl, by decide +kernel, rfl, by decide +kernel, by decide +kernel⟩
section
variable {P : Program} {w : World} {K : PySem.W.Frag} {mg : Str → Option Value} {base : Heap} {CP CO CR : Addr}
theorem ok_best {f fi fl fp ft Pt : Addr} {fd fdi fdl fdp fdt : FuncData} (F : Fun K "best_order" "best_order" sBest f fd) (T : Txt K mg CP CO CR) (DI : Def P w K mg base "is_temperature" 1 ["temperature"] spIsTemp fi fdi)
    (DL : Def P w K mg base "order_of_least_change" 2 ["start", "degrees"] spLeast fl fdl) (DP : Def P w K mg base "planned_temperatures" 8 ["oven"] (spPTemps CP CO Pt) fp fdp) (DT : Def P w K mg base "total_change" 1 ["start", "degrees"] spTotal ft fdt) :
    FnOk P w K mg base CX0 9 f fd ["oven", "numbers"] (spBest K CP CO Pt) := by
  refine F.ok scBest (fun vs H Q E h => ?_) (fun cdv A outer s H vs Q E hr h => ⟨_, pss_cons (ps_set (i := 2) scBest.nd rfl (Or.inl rfl) (pe_ix ix_list (pv 1) pe_int (fun _ _ => rfl)))
    (pss_cons (ps_if (pt_not (pt_val (pe_def DI hr (by decide) rfl (pa_cons (pv 2) pa_nil)))) (pss_one (ps_ret (pe_lst (pa_cons (pe_gi rfl T.cOu) pa_nil)))) pss_nil)
    (pss_cons (ps_set (i := 3) scBest.nd rfl (Or.inl rfl) (pe_def DL hr (by decide) rfl (pa_cons (pv 2) (pa_cons (pe_def DP hr (by decide) rfl (pa_cons (pv 0) pa_nil)) pa_nil))))
    (pss_one (ps_ret (pe_op op_cat (pe_lst (pa_cons (pe_def DT hr (by decide) rfl (pa_cons (pv 2) (pa_cons (pv 3) pa_nil))) pa_nil)) (pv 3)))))), ?_⟩)
  · obtain ⟨a, l, nl, o, k, rfl, _⟩ := h
    rfl
  obtain ⟨a, l, nl, o, k, rfl, hO, hw, hN, hT, kk⟩ := h
  refine ⟨_, rfl, nl, _, 0, _, rfl, rfl, hN, at_of (j := 0) rfl rfl, _, rfl, k, rfl, _, rfl, ?_⟩
  refine not_bool (fun hc => ?_) fun hc => ?_
  · obtain ⟨t0, t1⟩ := isTemp_iff.mp hc
    obtain ⟨n, rfl⟩ := Int.eq_ofNat_of_zero_le t0
    rw [best_good hc] at kk
    have hlen := batches_len hw
    refine ⟨_, rfl, _, rfl, a, l, o, rfl, hO, hw, hT, fun H1 p e T1 np hp => ?_⟩
    refine ⟨n, p, _, rfl, hp, fun H2 q sm nq hq => ?_⟩
    refine ⟨_, rfl, _, rfl, n, q, _, rfl, hq, (by show 1 ≤ sizeLine; decide), fun r hr => ?_⟩
    refine ⟨_, rfl, r, q, _, _, rfl, rfl, upd_same, (upd_ne (ne_of_none hq hr)).trans hq, ?_, fun u hu => ?_⟩
    · rw [nats_len, bestN_len, temps_len]
      show 1 + _ ≤ sizeLine
      rw [sizeLine_eq]
      omega
    · have e2 : ExtN H (upd H2 r (.lst [.int ((Sr99.totalChange n (bestN n (Sr99.temperaturesOf (Sr99.batches o))) : Nat) : Int)])) := (e.trans (same_ext sm)).trans (ext_upd hr)
      refine kk _ u ?_ (e2.trans (ext_upd hu)) (tabs_upd (tabs_upd (T1.ext sm) hr) hu) ((New.of hu).back e2)
      rw [ans_list]
      exact upd_same
  · rw [best_bad hc] at kk
    exact ⟨(by show 1 ≤ sizeLine; decide), fun p hp => kk _ p upd_same (ext_upd hp) (tabs_upd hT hp) (New.of hp)⟩
theorem best_op {f Pt : Addr} {fd : FuncData} (G : FnOk P w K mg base CX0 9 f fd ["oven", "numbers"] (spBest K CP CO Pt)) : FnOk P w K mg base CX0 10 f fd ["oven", "numbers"] (spOp K CP CO Pt fun ns c => ∃ k, ns = [k] ∧ c = .bestOrder k) := by
  refine (G.mono (by decide)).imp fun vs H Q E h => ?_
  obtain ⟨a, l, nl, o, ns, c, rfl, hO, hw, hN, ⟨k, rfl, rfl⟩, hT, kk⟩ := h
  exact ⟨a, l, nl, o, k, rfl, hO, hw, hN, hT, fun H' p hp e T' n => kk H' p l hp (hO.ext e) (.inl rfl) (Fr.ext e) T' n⟩
theorem cut_one {x : V} {r : List V} : cutV (x :: r) none (some 1) = [x] := by
  unfold cutV
  rw [HT.sIx_none, show (1 : Int) = ((1 : Nat) : Int) from rfl, HT.sIx_nat, List.length_cons, Nat.min_eq_left (by omega)]
  rfl
theorem ok_minC {f fb Pt : Addr} {fd fdb : FuncData} (F : Fun K "min_change" "min_change" sMinC f fd) (T : Txt K mg CP CO CR) (DB : Def P w K mg base "best_order" 9 ["oven", "numbers"] (spBest K CP CO Pt) fb fdb) :
    FnOk P w K mg base CX0 10 f fd ["oven", "numbers"] (spOp K CP CO Pt fun ns c => ∃ k, ns = [k] ∧ c = .minChange k) := by
  refine F.ok scMinC len_op (fun cdv A outer s H vs Q E hr h => ⟨_, pss_one (ps_ret (pe_slice sl_list (pe_def DB hr (by decide) rfl (pa_cons (pv 0) (pa_cons (pv 1) pa_nil))) po_none (po_some pe_int))), ?_⟩)
  obtain ⟨a, l, nl, o, ns, c, rfl, hO, hw, hN, ⟨k, rfl, rfl⟩, hT, kk⟩ := h
  refine ⟨_, rfl, _, rfl, a, l, nl, o, k, rfl, hO, hw, hN, hT, fun H1 p hp e T1 np => ?_⟩
  refine ⟨_, rfl, p, _, rfl, SqL.of hp, fun q hq => ?_⟩
  by_cases hc : Sr99.isTemperature k = true
  · obtain ⟨n, rfl⟩ := Int.eq_ofNat_of_zero_le (isTemp_iff.mp hc).1
    refine op_same (hO.ext e) T1 (minc_good hc) ?_ hq (op_on e kk)
    rw [best_good hc]
    exact cut_one
  · have hc' := Bool.eq_false_iff.mpr hc
    refine op_same (hO.ext e) T1 (minc_bad hc') ?_ hq (op_on e kk)
    rw [best_bad hc']
    exact cut_one
theorem ok_compat {f fh fs Pt : Addr} {fd fdh fds : FuncData} (F : Fun K "are_compatible" "are_compatible" sCompat f fd) (T : Txt K mg CP CO CR) (DH : Def P w K mg base "has_product" 1 ["oven", "i"] (spHas CP CO) fh fdh)
    (DS : Def P w K mg base "have_a_shared_temperature" 1 ["product", "other"] (spShared CP) fs fds) :
    FnOk P w K mg base CX0 10 f fd ["oven", "numbers"] (spOp K CP CO Pt fun ns c => ∃ i j, ns = [i, j] ∧ c = .areCompatible i j) := by
  refine F.ok scCompat len_op (fun cdv A outer s H vs Q E hr h => ⟨_, pss_cons (ps_set (i := 2) scCompat.nd rfl (Or.inl rfl) (pe_ix ix_list (pv 1) pe_int (fun _ _ => rfl))) (pss_cons (ps_set (i := 3) scCompat.nd rfl (Or.inl rfl) (pe_ix ix_list (pv 1) pe_int (fun _ _ => rfl)))
    (pss_cons (ps_if (PW.pt (pw_or (pt_not (pt_val (pe_def DH hr (by decide) rfl (pa_cons (pv 0) (pa_cons (pv 2) pa_nil))))) (pw_or1 (pt_not (pt_val (pe_def DH hr (by decide) rfl (pa_cons (pv 0) (pa_cons (pv 3) pa_nil)))))))) (pss_one (ps_ret (pe_lst (pa_cons (pe_gi rfl T.cMi) pa_nil)))) pss_nil)
    (pss_one (ps_ret (pe_lst (pa_cons (pe_ifExp (pt_val (pe_def DS hr (by decide) rfl (pa_cons (pe_ix ix_list (pe_fld (pv 0) rfl) (pv 2) (fun _ _ => rfl)) (pa_cons (pe_ix ix_list (pe_fld (pv 0) rfl) (pv 3) (fun _ _ => rfl)) pa_nil)))) pe_int pe_int) pa_nil)))))), ?_⟩)
  obtain ⟨a, l, nl, o, ns, c, rfl, hO, hw, hN, ⟨i, j, rfl, rfl⟩, hT, k⟩ := h
  refine ⟨_, rfl, nl, _, 0, _, rfl, rfl, hN, at_of (j := 0) rfl rfl, _, rfl, nl, _, 1, _, rfl, rfl, hN, at_of (j := 1) rfl rfl, _, rfl, _, rfl, a, l, o, i, rfl, hO, _, rfl, ?_⟩
  have ep : Sr99.perform o (.areCompatible i j) = (none, if Sr99.isProduct o i = false ∨ Sr99.isProduct o j = false then .ofCode SrCommon.notFound else .ofCode (SrCommon.boolToInt (decide
      (max (Sr99.productAt o i.toNat).minTemperature (Sr99.productAt o j.toNat).minTemperature ≤ min (Sr99.productAt o i.toNat).maxTemperature (Sr99.productAt o j.toNat).maxTemperature)))) := rfl
  have bad : (Sr99.isProduct o i = false ∨ Sr99.isProduct o j = false) → ∀ p, H p = none → Q (.ref p) (upd H p (.lst [.int (-2)])) := fun hb p hp => op_same hO hT (r := .ofCode (-2)) (by rw [ep, if_pos hb]; rfl) rfl hp k
  refine not_bool (fun hc => ?_) fun hc => ?_
  · refine ⟨_, rfl, _, rfl, a, l, o, j, rfl, hO, _, rfl, not_bool (fun hc2 => ?_) fun hc2 => ?_⟩
    · have hg : ¬ (Sr99.isProduct o i = false ∨ Sr99.isProduct o j = false) := by rw [hc, hc2]; simp
      obtain ⟨i0, i1⟩ := isProd_iff.mp hc
      obtain ⟨j0, j1⟩ := isProd_iff.mp hc2
      obtain ⟨⟨dx, h1⟩, xs, h2, h3⟩ := id hO
      have hi : i.toNat < o.products.length := by omega
      have hj : j.toNat < o.products.length := by omega
      have ei : i = ((i.toNat : Nat) : Int) := by omega
      have ej : j = ((j.toNat : Nat) : Int) := by omega
      obtain ⟨b, db, b1, b2⟩ := h3.field hi
      obtain ⟨c, dc, c1, c2⟩ := h3.field hj
      refine ⟨_, rfl, a, CO, dx, _, _, rfl, h1, T.clO, T.oPs, oF_ps o l, _, rfl, l, xs, i, _, rfl, rfl, SqL.of h2, at_of ei b1, ?_⟩
      refine ⟨_, rfl, a, CO, dx, _, _, rfl, h1, T.clO, T.oPs, oF_ps o l, _, rfl, l, xs, j, _, rfl, rfl, SqL.of h2, at_of ej c1, b, c, _, _, rfl, ⟨db, b2⟩, ⟨dc, c2⟩, _, rfl, ?_⟩
      have wi := hw.each _ (at_mem hi)
      have wj := hw.each _ (at_mem hj)
      have eb : (decide (((Sr99.productAt o i.toNat).minTemperature : Int) ≤ ((Sr99.productAt o j.toNat).maxTemperature : Int)) && decide (((Sr99.productAt o j.toNat).minTemperature : Int) ≤ ((Sr99.productAt o i.toNat).maxTemperature : Int)))
          = decide (max (Sr99.productAt o i.toNat).minTemperature (Sr99.productAt o j.toNat).minTemperature ≤ min (Sr99.productAt o i.toNat).maxTemperature (Sr99.productAt o j.toNat).maxTemperature) := by
        rw [Bool.eq_iff_iff, Bool.and_eq_true, decide_eq_true_eq, decide_eq_true_eq, decide_eq_true_eq]
        omega
      rw [eb]
      refine ite2 (fun hd => ?_) fun hd => ?_
      · refine ⟨(by show 1 ≤ sizeLine; decide), fun p hp => op_same hO hT (r := .ofCode 1) ?_ rfl hp k⟩
        rw [ep, if_neg hg, hd]
        rfl
      · refine ⟨(by show 1 ≤ sizeLine; decide), fun p hp => op_same hO hT (r := .ofCode 0) ?_ rfl hp k⟩
        rw [ep, if_neg hg, Bool.eq_false_iff.mpr hd]
        rfl
    · exact ⟨(by show 1 ≤ sizeLine; decide), fun p hp => bad (.inr hc2) p hp⟩
  · exact ⟨(by show 1 ≤ sizeLine; decide), fun p hp => bad (.inl hc) p hp⟩
theorem ok_fillB {f fi fa ff Pt : Addr} {fd fdi fda fdf : FuncData} (F : Fun K "fill_batch" "fill_batch" sFillB f fd) (T : Txt K mg CP CO CR) (DI : Def P w K mg base "is_temperature" 1 ["temperature"] spIsTemp fi fdi)
    (DA : Def P w K mg base "all_tins" 1 ["products"] (spAllT CP) fa fda) (DF : Def P w K mg base "filled_batch" 5 ["products", "remaining", "capacity", "temperature"] (spFilled CP Pt) ff fdf) :
    FnOk P w K mg base CX0 10 f fd ["oven", "numbers"] (spOp K CP CO Pt fun ns c => ∃ t, ns = [t] ∧ c = .fillBatch t) := by
  refine F.ok scFillB len_op (fun cdv A outer s H vs Q E hr h => ⟨_, pss_cons (ps_set (i := 2) scFillB.nd rfl (Or.inl rfl) (pe_ix ix_list (pv 1) pe_int (fun _ _ => rfl)))
    (pss_cons (ps_if (pt_not (pt_val (pe_def DI hr (by decide) rfl (pa_cons (pv 2) pa_nil)))) (pss_one (ps_ret (pe_lst (pa_cons (pe_gi rfl T.cOu) pa_nil)))) pss_nil)
    (pss_cons (ps_set (i := 3) scFillB.nd rfl (Or.inl rfl) (pe_def DF hr (by decide) rfl (pa_cons (pe_fld (pv 0) rfl) (pa_cons (pe_def DA hr (by decide) rfl (pa_cons (pe_fld (pv 0) rfl) pa_nil)) (pa_cons (pe_fld (pv 0) rfl) (pa_cons (pv 2) pa_nil))))))
    (pss_one (ps_ret (pe_op op_cat (pe_lst (pa_cons (pe_callB (cr_sum rfl) (by rfl) T.sum PyProof.Rows.boot_sum (pa_cons (pv 3) pa_nil)) pa_nil)) (pv 3)))))), ?_⟩)
  obtain ⟨a, l, nl, o, ns, c, rfl, hO, hw, hN, ⟨t, rfl, rfl⟩, hT, kk⟩ := h
  refine ⟨_, rfl, nl, _, 0, _, rfl, rfl, hN, at_of (j := 0) rfl rfl, _, rfl, t, rfl, _, rfl, ?_⟩
  refine not_bool (fun hc => ?_) fun hc => ?_
  · obtain ⟨t0, t1⟩ := isTemp_iff.mp hc
    obtain ⟨n, rfl⟩ := Int.eq_ofNat_of_zero_le t0
    have ep : Sr99.perform o (.fillBatch (n : Int)) = (none, ⟨((SrCommon.sum (Sr99.fill o (Sr99.allTins o) n) : Nat) : Int), SrCommon.natsToInts (Sr99.fill o (Sr99.allTins o) n)⟩) := by
      have e : Sr99.perform o (.fillBatch (n : Int)) = (none, if Sr99.isTemperature (n : Int) = false then .ofCode SrCommon.invalidArgument else ⟨((SrCommon.sum (Sr99.fill o (Sr99.allTins o) n) : Nat) : Int), SrCommon.natsToInts (Sr99.fill o (Sr99.allTins o) n)⟩) := rfl
      rw [e, if_neg (by rw [hc]; simp)]
    obtain ⟨⟨dx, h1⟩, xs, h2, h3⟩ := id hO
    have few := hw.few
    refine ⟨_, rfl, a, CO, dx, _, _, rfl, h1, T.clO, T.oPs, oF_ps o l, ?_⟩
    refine ⟨_, rfl, a, CO, dx, _, _, rfl, h1, T.clO, T.oPs, oF_ps o l, l, xs, o, rfl, h2, h3, few, fun H1 r sm nr hr1 => ?_⟩
    refine ⟨_, rfl, a, CO, dx, _, _, rfl, sm a _ h1, T.clO, T.oCap, oF_cap o l, _, rfl, l, r, xs, o, _, n, rfl, sm l _ h2, h3.ext (same_ext sm), few, hr1, tins_len o, hT.ext sm, fun H2 q e T2 nq hq => ?_⟩
    have e2 : ExtN H H2 := (same_ext sm).trans e
    refine ⟨_, rfl, q, (Sr99.fill o (Sr99.allTins o) n).map fun (x : Nat) => (x : Int), rfl, SqL.of (by rw [nats_ints]; exact hq), (by show 1 ≤ sizeLine; decide), fun u hu => ?_⟩
    rw [sum_int]
    have e3 : ExtN H (upd H2 u (.lst [.int ((SrCommon.sum (Sr99.fill o (Sr99.allTins o) n) : Nat) : Int)])) := e2.trans (ext_upd hu)
    refine ⟨_, rfl, u, q, _, _, rfl, rfl, upd_same, (upd_ne (ne_of_none hq hu)).trans hq, ?_, fun v hv => ?_⟩
    · rw [nats_len, fill_len]
      show 1 + _ ≤ sizeLine
      rw [sizeLine_eq]
      omega
    · exact op_same (hO.ext e3) (tabs_upd T2 hu) ep ans_list.symm hv (op_on e3 kk)
  · refine ⟨(by show 1 ≤ sizeLine; decide), fun p hp => op_same hO hT (r := .ofCode (-22)) ?_ rfl hp kk⟩
    have e : Sr99.perform o (.fillBatch t) = (none, if Sr99.isTemperature t = false then .ofCode SrCommon.invalidArgument else ⟨((SrCommon.sum (Sr99.fill o (Sr99.allTins o) t.toNat) : Nat) : Int), SrCommon.natsToInts (Sr99.fill o (Sr99.allTins o) t.toNat)⟩) := rfl
    rw [e, if_pos hc]
    rfl
theorem ok_ifTins {f fh ft fw fp Pt : Addr} {fd fdh fdt fdw fdp : FuncData} (F : Fun K "min_batches_if_tins" "min_batches_if_tins" sIfTins f fd) (T : Txt K mg CP CO CR) (DH : Def P w K mg base "has_product" 1 ["oven", "i"] (spHas CP CO) fh fdh) (DT : Def P w K mg base "is_number_of_tins" 1 ["tins"] spIsTins ft fdt)
    (DW : Def P w K mg base "with_tins" 3 ["products", "i", "tins"] (spWith CP) fw fdw) (DP : Def P w K mg base "planned_batches" 6 ["products", "capacity"] (spPlanned CP Pt) fp fdp) :
    FnOk P w K mg base CX0 10 f fd ["oven", "numbers"] (spOp K CP CO Pt fun ns c => ∃ i t, ns = [i, t] ∧ c = .minBatchesIfTins i t) := by
  refine F.ok scIfTins len_op (fun cdv A outer s H vs Q E hr h => ⟨_, pss_cons (ps_set (i := 2) scIfTins.nd rfl (Or.inl rfl) (pe_ix ix_list (pv 1) pe_int (fun _ _ => rfl))) (pss_cons (ps_set (i := 3) scIfTins.nd rfl (Or.inl rfl) (pe_ix ix_list (pv 1) pe_int (fun _ _ => rfl)))
    (pss_cons (ps_if (pt_not (pt_val (pe_def DH hr (by decide) rfl (pa_cons (pv 0) (pa_cons (pv 2) pa_nil))))) (pss_one (ps_ret (pe_lst (pa_cons (pe_gi rfl T.cMi) pa_nil)))) pss_nil)
    (pss_cons (ps_if (pt_not (pt_val (pe_def DT hr (by decide) rfl (pa_cons (pv 3) pa_nil)))) (pss_one (ps_ret (pe_lst (pa_cons (pe_gi rfl T.cOu) pa_nil)))) pss_nil)
    (pss_one (ps_ret (pe_lst (pa_cons (pe_callB call_len_seq (by rfl) T.len PySem.boot_len (pa_cons (pe_def DP hr (by decide) rfl (pa_cons (pe_def DW hr (by decide) rfl (pa_cons (pe_fld (pv 0) rfl) (pa_cons (pv 2) (pa_cons (pv 3) pa_nil)))) (pa_cons (pe_fld (pv 0) rfl) pa_nil))) pa_nil)) pa_nil))))))), ?_⟩)
  obtain ⟨a, l, nl, o, ns, c, rfl, hO, hw, hN, ⟨i, t, rfl, rfl⟩, hT, k⟩ := h
  refine ⟨_, rfl, nl, _, 0, _, rfl, rfl, hN, at_of (j := 0) rfl rfl, _, rfl, nl, _, 1, _, rfl, rfl, hN, at_of (j := 1) rfl rfl, _, rfl, _, rfl, a, l, o, i, rfl, hO, _, rfl, ?_⟩
  have ep : Sr99.perform o (.minBatchesIfTins i t) = (none, if Sr99.isProduct o i = false then .ofCode SrCommon.notFound else if Sr99.isTinCount t = false then .ofCode SrCommon.invalidArgument else Sr99.countResult (Sr99.batches (newTins o i t)).length) := rfl
  refine not_bool (fun hc => ?_) fun hc => ?_
  · refine ⟨_, rfl, t, rfl, _, rfl, not_bool (fun hc2 => ?_) fun hc2 => ?_⟩
    · obtain ⟨i0, i1⟩ := isProd_iff.mp hc
      obtain ⟨t0, t1⟩ := isTins_iff.mp hc2
      obtain ⟨⟨dx, h1⟩, xs, h2, h3⟩ := id hO
      have hw2 : Wf (newTins o i t) := by
        have e : Sr99.perform o (.setTins i t) = if Sr99.isProduct o i = false then Sr99.error SrCommon.notFound else if Sr99.isTinCount t = false then Sr99.error SrCommon.invalidArgument else
          (some (newTins o i t), Sr99.countResult (Sr99.productAt o i.toNat).tins) := rfl
        have := wf_perform hw (.setTins i t)
        rw [e, if_neg (by rw [hc]; simp), if_neg (by rw [hc2]; simp)] at this
        exact this
      refine ⟨_, rfl, a, CO, dx, _, _, rfl, h1, T.clO, T.oPs, oF_ps o l, _, rfl, _, rfl, l, xs, o, i, t, rfl, h2, h3, hw.few, i0, i1, t0, fun H2 p ys sm np hp hps2 => ?_⟩
      refine ⟨_, rfl, a, CO, dx, _, _, rfl, sm a _ h1, T.clO, T.oCap, oF_cap o l, p, ys, newTins o i t, rfl, hp, hps2, hw2, hT.ext sm, fun H3 q ws e T3 nq hq hB _ => ?_⟩
      have e2 : ExtN H H3 := (same_ext sm).trans e
      refine ⟨q, _, rfl, .inl (SqL.of hq), (by show 1 ≤ sizeLine; decide), fun u hu => ?_⟩
      refine op_same (hO.ext e2) T3 (r := Sr99.countResult (Sr99.batches (newTins o i t)).length) ?_ (by rw [hB.len]; rfl) hu (op_on e2 k)
      rw [ep, if_neg (by rw [hc]; simp), if_neg (by rw [hc2]; simp)]
    · refine ⟨(by show 1 ≤ sizeLine; decide), fun p hp => op_same hO hT (r := .ofCode (-22)) ?_ rfl hp k⟩
      rw [ep, if_neg (by rw [hc]; simp), if_pos hc2]
      rfl
  · refine ⟨(by show 1 ≤ sizeLine; decide), fun p hp => op_same hO hT (r := .ofCode (-2)) ?_ rfl hp k⟩
    rw [ep, if_pos hc]
    rfl
theorem ok_ifCap {f fc fp Pt : Addr} {fd fdc fdp : FuncData} (F : Fun K "min_batches_if_capacity" "min_batches_if_capacity" sIfCap f fd) (T : Txt K mg CP CO CR) (DC : Def P w K mg base "is_capacity" 1 ["capacity"] spIsCap fc fdc)
    (DP : Def P w K mg base "planned_batches" 6 ["products", "capacity"] (spPlanned CP Pt) fp fdp) :
    FnOk P w K mg base CX0 10 f fd ["oven", "numbers"] (spOp K CP CO Pt fun ns c => ∃ k, ns = [k] ∧ c = .minBatchesIfCapacity k) := by
  refine F.ok scIfCap len_op (fun cdv A outer s H vs Q E hr h => ⟨_, pss_cons (ps_set (i := 2) scIfCap.nd rfl (Or.inl rfl) (pe_ix ix_list (pv 1) pe_int (fun _ _ => rfl)))
    (pss_cons (ps_if (pt_not (pt_val (pe_def DC hr (by decide) rfl (pa_cons (pv 2) pa_nil)))) (pss_one (ps_ret (pe_lst (pa_cons (pe_gi rfl T.cOu) pa_nil)))) pss_nil)
    (pss_one (ps_ret (pe_lst (pa_cons (pe_callB call_len_seq (by rfl) T.len PySem.boot_len (pa_cons (pe_def DP hr (by decide) rfl (pa_cons (pe_fld (pv 0) rfl) (pa_cons (pv 2) pa_nil))) pa_nil)) pa_nil))))), ?_⟩)
  obtain ⟨a, l, nl, o, ns, c, rfl, hO, hw, hN, ⟨c, rfl, rfl⟩, hT, k⟩ := h
  refine ⟨_, rfl, nl, _, 0, _, rfl, rfl, hN, at_of (j := 0) rfl rfl, _, rfl, c, rfl, _, rfl, ?_⟩
  have ep : Sr99.perform o (.minBatchesIfCapacity c) = (none, if Sr99.isCapacity c = false then .ofCode SrCommon.invalidArgument else Sr99.countResult (Sr99.batches { o with capacity := c.toNat }).length) := rfl
  refine not_bool (fun hc => ?_) fun hc => ?_
  · obtain ⟨⟨dx, h1⟩, xs, h2, h3⟩ := id hO
    obtain ⟨c0, c1⟩ := isCap_iff.mp hc
    have hw2 : Wf { o with capacity := c.toNat } := by
      have e : Sr99.perform o (.setCapacity c) = if Sr99.isCapacity c = false then Sr99.error SrCommon.invalidArgument else (some { o with capacity := c.toNat }, Sr99.countResult o.capacity) := rfl
      have := wf_perform hw (.setCapacity c)
      rw [e, if_neg (by rw [hc]; simp)] at this
      exact this
    refine ⟨_, rfl, a, CO, dx, _, _, rfl, h1, T.clO, T.oPs, oF_ps o l, _, rfl, l, xs, { o with capacity := c.toNat }, ?_, h2, h3, hw2, hT, fun H3 q ws e T3 nq hq hB _ => ?_⟩
    · show [V.ref l, V.int c] = [V.ref l, V.int ((c.toNat : Nat) : Int)]
      rw [Int.toNat_of_nonneg (by omega)]
    · refine ⟨q, _, rfl, .inl (SqL.of hq), (by show 1 ≤ sizeLine; decide), fun u hu => ?_⟩
      refine op_same (hO.ext e) T3 (r := Sr99.countResult (Sr99.batches { o with capacity := c.toNat }).length) ?_ (by rw [hB.len]; rfl) hu (op_on e k)
      rw [ep, if_neg (by rw [hc]; simp)]
  · refine ⟨(by show 1 ≤ sizeLine; decide), fun p hp => op_same hO hT (r := .ofCode (-22)) ?_ rfl hp k⟩
    rw [ep, if_pos hc]
    rfl
end
end Ov
/-! check_batches, describe -/
namespace Ov
open PySem PySem.Spec PyProof.Rows L2 LamX NdefX OvS Ovb
theorem scCheck : FnScope ["oven", "numbers", "listed", "batches"] ["oven", "numbers"] (defScope sCheck) := ⟨rfl, rfl, rfl, by decide +kernel, rfl, by decide +kernel, by decide +kernel⟩
theorem scDescr : FnScope ["oven", "numbers", "described", "product"] ["oven", "numbers"] (defScope sDescr) := ⟨rfl, rfl, rfl, by decide +kernel, rfl, by decide +kernel, by decide +kernel⟩
theorem cut_rest {x : Int} {r : List Int} : cutV ((x :: r).map V.int) (some 1) none = r.map V.int := by
  unfold cutV
  rw [HT.sIx_none, show (1 : Int) = ((1 : Nat) : Int) from rfl, HT.sIx_nat, List.map_cons, List.length_cons, Nat.min_eq_left (by omega)]
  show ((r.map V.int).take _) = _
  exact List.take_of_length_le (by omega)
theorem listB_good {n : Nat} {l : List Int} (h : listB n l = true) : l.length = (l.length / (n + 1)) * (n + 1) ∧ ∀ x ∈ l, 0 ≤ x := by
  unfold listB at h
  rw [Bool.and_eq_true, decide_eq_true_eq, List.all_eq_true] at h
  refine ⟨?_, fun x hx => of_decide_eq_true (h.2 x hx)⟩
  have := Nat.div_add_mod l.length (n + 1)
  rw [h.1, Nat.add_zero, Nat.mul_comm] at this
  exact this.symm
theorem listB_bad {n : Nat} {l : List Int} (h : listB n l = false) : l.length % (n + 1) ≠ 0 ∨ ∃ x ∈ l, x < 0 := by
  unfold listB at h
  rcases Bool.and_eq_false_iff.mp h with z | z
  · exact .inl (of_decide_eq_false z)
  · obtain ⟨x, hx, hn⟩ := List.all_eq_false.mp z
    exact .inr ⟨x, hx, by simpa using hn⟩
/-- what of the product is told -/
def told3 (p : Sr99.Product) : List Int := [(p.minTemperature : Int), (p.maxTemperature : Int), (p.tins : Int)]
section
variable {P : Program} {w : World} {K : PySem.W.Frag} {mg : Str → Option Value} {base : Heap} {CP CO CR : Addr}
theorem ok_check {f fl fb fs Pt : Addr} {fd fdl fdb fds : FuncData} (F : Fun K "check_batches" "check_batches" sCheck f fd) (T : Txt K mg CP CO CR) (DL : Def P w K mg base "is_list_of_batches" 1 ["numbers", "products"] (spIsList K) fl fdl)
    (DB : Def P w K mg base "batches_in" 1 ["numbers", "products"] spBIn fb fdb) (DS : Def P w K mg base "is_solution" 3 ["batches", "products", "capacity"] (spIsSol CP) fs fds) :
    FnOk P w K mg base CX0 10 f fd ["oven", "numbers"] (spOp K CP CO Pt fun ns c => ∃ m rows, ns = m :: rows ∧ rows.length ≤ 70 ∧ c = .checkBatches rows) := by
  refine F.ok scCheck len_op (fun cdv A outer s H vs Q E hr h => ⟨_, pss_cons (ps_set (i := 2) scCheck.nd rfl (Or.inl rfl) (pe_slice sl_list (pv 1) (po_some pe_int) po_none))
    (pss_cons (ps_if (pt_not (pt_val (pe_def DL hr (by decide) rfl (pa_cons (pv 2) (pa_cons (pe_fld (pv 0) rfl) pa_nil))))) (pss_one (ps_ret (pe_lst (pa_cons (pe_gi rfl T.cOu) pa_nil)))) pss_nil)
    (pss_cons (ps_set (i := 3) scCheck.nd rfl (Or.inl rfl) (pe_def DB hr (by decide) rfl (pa_cons (pv 2) (pa_cons (pe_fld (pv 0) rfl) pa_nil))))
    (pss_one (ps_ret (pe_lst (pa_cons (pe_ifExp (pt_val (pe_def DS hr (by decide) rfl (pa_cons (pv 3) (pa_cons (pe_fld (pv 0) rfl) (pa_cons (pe_fld (pv 0) rfl) pa_nil))))) pe_int pe_int) (pa_cons (pe_callB call_len_seq (by rfl) T.len PySem.boot_len (pa_cons (pv 3) pa_nil)) pa_nil))))))), ?_⟩)
  obtain ⟨a, l, nl, o, ns, c, rfl, hO, hw, hN, ⟨m, rows, rfl, h70, rfl⟩, hT, k⟩ := h
  refine ⟨_, rfl, _, rfl, nl, _, rfl, hN, fun r hr => ?_⟩
  rw [cut_rest]
  have s1 : Same H (upd H r (.lst (rows.map V.int))) := same_upd (Same.refl H) hr
  have hr1 : upd H r (.lst (rows.map V.int)) r = some (.lst (rows.map V.int)) := upd_same
  generalize upd H r (.lst (rows.map V.int)) = H1 at s1 hr1
  obtain ⟨⟨dx, h1⟩, xs, h2, h3⟩ := id hO
  have few := hw.few
  have ep : Sr99.perform o (.checkBatches rows) = (none, match Sr99.decodeBatches o.products.length rows rows.length with
    | none => .ofCode SrCommon.invalidArgument
    | some l => ⟨SrCommon.boolToInt (Sr99.isSolution o l), [(l.length : Int)]⟩) := rfl
  refine ⟨_, rfl, _, rfl, a, CO, dx, _, _, rfl, s1 a _ h1, T.clO, T.oPs, oF_ps o l, r, l, xs, rows, rfl, hr1, s1 l _ h2, _, rfl, ?_⟩
  rw [h3.len]
  refine not_bool (fun hc => ?_) fun hc => ?_
  · obtain ⟨g1, g2⟩ := listB_good hc
    generalize rows.length / (o.products.length + 1) = n at g1
    have hn : n ≤ rows.length := by
      rw [g1]
      exact Nat.le_mul_of_pos_right n (Nat.succ_pos _)
    have ed := decode_good o.products.length n rows rows.length g1 g2 hn
    rw [ed] at ep
    have ep2 : Sr99.perform o (.checkBatches rows) = (none, ⟨SrCommon.boolToInt (Sr99.isSolution o (chunks o.products.length n rows)), [((chunks o.products.length n rows).length : Int)]⟩) := ep
    refine ⟨_, rfl, _, rfl, a, CO, dx, _, _, rfl, s1 a _ h1, T.clO, T.oPs, oF_ps o l, r, l, xs, rows, n, rfl, hr1, s1 l _ h2, by rw [h3.len]; exact few, by rw [h3.len]; exact g1, h70, g2, fun H2 p ws s2 np hp hB => ?_⟩
    rw [h3.len] at hB
    have s12 : Same H H2 := s1.trans s2
    have hcl := chunks_len o.products.length n rows g1
    have htl : ∀ b ∈ chunks o.products.length n rows, b.tins.length = o.products.length := fun b hb => by
      obtain ⟨i, hi, e⟩ := List.getElem_of_mem hb
      have hin : i < n := by rw [← hcl]; exact hi
      have hat := chunks_at o.products.length n rows i g1 hin
      rw [List.getElem?_eq_getElem hi] at hat
      have e2 := Option.some.inj hat
      rw [e] at e2
      rw [e2]
      show (SrCommon.intsToNats _).length = _
      rw [toNats_len, List.length_take, List.length_drop]
      have h5 : (i + 1) * (o.products.length + 1) ≤ n * (o.products.length + 1) := Nat.mul_le_mul_right _ hin
      have h6 : (i + 1) * (o.products.length + 1) = i * (o.products.length + 1) + (o.products.length + 1) := Nat.succ_mul ..
      omega
    refine ⟨_, rfl, _, rfl, a, CO, dx, _, _, rfl, s12 a _ h1, T.clO, T.oPs, oF_ps o l, _, rfl, a, CO, dx, _, _, rfl, s12 a _ h1, T.clO, T.oCap, oF_cap o l, p, l, ws, xs, _, o, rfl, hp, hB, by rw [hcl]; omega, htl, s12 l _ h2, h3.ext (same_ext s12), few, fun H3 s3 => ⟨_, rfl, ?_⟩⟩
    have s13 : Same H H3 := s12.trans s3
    have e13 : ExtN H H3 := same_ext s13
    refine ite2 (fun hd => ?_) fun hd => ?_
    · refine ⟨_, rfl, p, _, rfl, .inl (SqL.of (s3 p _ hp)), (by show 2 ≤ sizeLine; decide), fun q hq => ?_⟩
      refine op_same (hO.ext e13) (hT.ext s13) ep2 ?_ hq (op_on e13 k)
      rw [hd, hB.len]
      rfl
    · refine ⟨_, rfl, p, _, rfl, .inl (SqL.of (s3 p _ hp)), (by show 2 ≤ sizeLine; decide), fun q hq => ?_⟩
      refine op_same (hO.ext e13) (hT.ext s13) ep2 ?_ hq (op_on e13 k)
      rw [Bool.eq_false_iff.mpr hd, hB.len]
      rfl
  · have ed := decode_bad o.products.length rows.length rows (Nat.le_refl _) (listB_bad hc)
    rw [ed] at ep
    refine ⟨(by show 1 ≤ sizeLine; decide), fun p hp => op_same (hO.ext (same_ext s1)) (hT.ext s1) ep rfl hp (op_on (same_ext s1) k)⟩
theorem flat_more {ps : List Sr99.Product} {i : Nat} {p : Sr99.Product} (h : ps[i]? = some p) : (ps.take (i + 1)).flatMap told3 = (ps.take i).flatMap told3 ++ told3 p := by
  rw [take_more h, List.flatMap_append]
  congr 1
theorem told3_len : ∀ ps : List Sr99.Product, (ps.flatMap told3).length = 3 * ps.length
  | [] => rfl
  | p :: r => by
    rw [List.flatMap_cons, List.length_append, told3_len r, List.length_cons]
    show 3 + _ = _
    omega
theorem ok_descr {f Pt : Addr} {fd : FuncData} (F : Fun K "describe" "describe" sDescr f fd) (T : Txt K mg CP CO CR) :
    FnOk P w K mg base CX0 10 f fd ["oven", "numbers"] (spOp K CP CO Pt fun ns c => c = .describe) := by
  refine F.ok scDescr len_op (fun cdv A outer s H vs Q E hr h => ⟨_, pss_cons (ps_set (i := 2) scDescr.nd rfl (Or.inl rfl) (pe_lst (pa_cons (pe_fld (pv 0) rfl) (pa_cons (pe_callB call_len_seq (by rfl) T.len PySem.boot_len (pa_cons (pe_fld (pv 0) rfl) pa_nil)) pa_nil))))
    (pss_cons (ps_for PassesOwn.never rfl (pi_list (pe_fld (pv 0) rfl)) (pg_name (i := 3) scDescr.nd rfl (Or.inl rfl))
      (pss_one (ps_expr (pe_bm PySem.F.plainAttrs_list PySem.F.slot_list_extend PySem.F.type_list_extend mt_extend (pv 2) (pa_cons (pe_lst (pa_cons (pe_fld (pv 3) rfl) (pa_cons (pe_fld (pv 3) rfl) (pa_cons (pe_fld (pv 3) rfl) pa_nil)))) pa_nil)))))
    (pss_one (ps_ret (pv 2)))), ?_⟩)
  obtain ⟨a, l, nl, o, ns, c, rfl, hO, hw, hN, rfl, hT, k⟩ := h
  obtain ⟨⟨dx, h1⟩, xs, h2, h3⟩ := id hO
  have few := hw.few
  have ep : Sr99.perform o .describe = (none, ⟨(o.capacity : Int), (o.products.length : Int) :: o.products.flatMap told3⟩) := rfl
  refine ⟨_, rfl, a, CO, dx, _, _, rfl, h1, T.clO, T.oCap, oF_cap o l, _, rfl, a, CO, dx, _, _, rfl, h1, T.clO, T.oPs, oF_ps o l, l, _, rfl, .inl (SqL.of h2), (by show 2 ≤ sizeLine; decide), fun d hd => ?_⟩
  rw [h3.len]
  have s1 : Same H (upd H d (.lst [.int (o.capacity : Int), .int (o.products.length : Int)])) := same_upd (Same.refl H) hd
  have hd1 : upd H d (.lst [.int (o.capacity : Int), .int (o.products.length : Int)]) d = some (.lst [.int (o.capacity : Int), .int (o.products.length : Int)]) := upd_same
  generalize upd H d (.lst [.int (o.capacity : Int), .int (o.products.length : Int)]) = H1 at s1 hd1
  refine ⟨_, rfl, a, CO, dx, _, _, rfl, s1 a _ h1, T.clO, T.oPs, oF_ps o l, l, rfl, ⟨_, SqL.of (s1 l _ h2)⟩, for_list (K := K) (a := l) (xs := xs) (fun j σ H' => ∃ v, σ = [some (.ref a), some (.ref nl), some (.ref d), v] ∧ Same H H' ∧
      H' d = some (.lst ([.int (o.capacity : Int), .int (o.products.length : Int)] ++ ((o.products.take j).flatMap told3).map V.int)))
    ⟨none, rfl, s1, hd1⟩ (fun j σ H' _ ⟨_, _, sm, _⟩ => SqL.of (sm l _ h2)) (fun j y σ H' hj hP => ?_) (fun σ H' hP => ?_)⟩
  · obtain ⟨v, rfl, sm, hd'⟩ := hP
    have hi : j < o.products.length := by
      rw [← h3.len]
      exact (List.getElem?_eq_some_iff.mp hj).1
    obtain ⟨b, db, b1, b2⟩ := (h3.ext (same_ext sm)).field hi
    rw [hj] at b1
    cases b1
    refine ⟨_, rfl, .inl ⟨rfl, _, .inl (.inl hd')⟩, ?_⟩
    refine ⟨_, rfl, b, CP, db, _, _, rfl, b2, T.clP, T.pMin, pF_min _, _, rfl, b, CP, db, _, _, rfl, b2, T.clP, T.pMax, pF_max _, _, rfl, b, CP, db, _, _, rfl, b2, T.clP, T.pTin, pF_tins _, (by show 3 ≤ sizeLine; decide), fun q hq => ?_⟩
    have nqd : d ≠ q := ne_of_none hd' hq
    have nq : H q = none := by
      cases e : H q with
      | none => rfl
      | some u => rw [sm q u e] at hq; cases hq
    refine ⟨d, q, _, _, rfl, rfl, (upd_ne nqd).trans hd', upd_same, ?_, some (.ref b), rfl, ?_, ?_⟩
    · have := told3_len (o.products.take j)
      rw [List.length_append, List.length_map, this, List.length_take, sizeLine_eq]
      show 2 + _ + 3 ≤ _
      omega
    · exact same_upd (same_upd sm nq) hd
    · rw [upd_same, flat_more (at_get hi), List.map_append, List.append_assoc]
      rfl
  · obtain ⟨v, rfl, sm, hd'⟩ := hP
    rw [List.take_of_length_le (by rw [h3.len]; exact Nat.le_refl _)] at hd'
    refine ⟨_, rfl, k H' d l ?_ (hO.ext (same_ext sm)) (.inl rfl) (Fr.ext (same_ext sm)) (hT.ext sm) (New.of hd)⟩
    rw [ep, hd']
    rfl
end
end Ov
/-! operate, class Request -/
namespace Ov
open PySem PySem.Spec PyProof.Rows L2 LamX NdefX OvS Ovb
abbrev sOperate : Stmt := top 58
abbrev sRInit : Stmt := inClass (top 61) 0
abbrev sRCreate : Stmt := inClass (top 61) 1
abbrev sRAnswer : Stmt := inClass (top 61) 2
/-- operate's: as an operation's, its number ahead of its numbers -/
def spOperate (K : PySem.W.Frag) (CP CO Pt : Addr) (R : Int → List Int → Sr99.Call → Prop) : Sp := fun vs H Q _ => ∃ (a l nl : Addr) (o : Sr99.Oven) (z : Int) (ns : List Int) (c : Sr99.Call), vs = [.ref a, .int z, .ref nl] ∧ OvenAt CP CO H a l o ∧ Wf o ∧ SqL K H nl (ns.map V.int) ∧ R z ns c ∧ Tabs (TT Pt) H ∧
  ∀ (H' : Hp) (p l' : Addr), H' p = some (.lst (ansV (Sr99.perform o c).2)) → OvenAt CP CO H' a l' ((Sr99.perform o c).1.getD o) → (l' = l ∨ New H l') → Fr [a, l] H H' → Tabs (TT Pt) H' → New H p → Q (.ref p) H'
/-- how a request lies in the heap: ow: what of it may be written -/
inductive ReqAt (CP CO CR : Addr) (H : Hp) (rq : Addr) : Sr99.State → List Addr → Prop
  | none {dx : Addr} : H rq = some (.ins CR dx [("instance", .non)]) → ReqAt CP CO CR H rq .none [rq]
  | some {dx a l : Addr} {o : Sr99.Oven} : H rq = some (.ins CR dx [("instance", .ref a)]) → OvenAt CP CO H a l o → Wf o → ReqAt CP CO CR H rq (.some o) [rq, a, l]
def spRInit (C : Addr) : Sp := fun vs H Q _ => ∃ (p dx : Addr), vs = [.ref p] ∧ H p = some (.ins C dx []) ∧ ∀ H' : Hp, H' p = some (.ins C dx [("instance", .non)]) → (∀ b, b ≠ p → H' b = H b) → Q .non H'
/-- create's and answer's promise: the state's step -/
def stepPost (CP CO CR Pt : Addr) (H : Hp) (rq : Addr) (ow : List Addr) (r : Sr99.State × SrCommon.Result) (Q : VK) : Prop :=
  ∀ (H' : Hp) (p : Addr) (ow' : List Addr), H' p = some (.lst (ansV r.2)) → ReqAt CP CO CR H' rq r.1 ow' → (∀ b ∈ ow', b ∈ ow ∨ New H b) → Fr ow H H' → Tabs (TT Pt) H' → New H p → Q (.ref p) H'
def spCreate (CP CO CR Pt : Addr) : Sp := fun vs H Q _ => ∃ (rq : Addr) (st : Sr99.State) (ow : List Addr) (c : Int), vs = [.ref rq, .int c] ∧ ReqAt CP CO CR H rq st ow ∧ Tabs (TT Pt) H ∧ stepPost CP CO CR Pt H rq ow (Sr99.step st (.create c)) Q
def spAnswer (K : PySem.W.Frag) (CP CO CR Pt : Addr) (R : Int → List Int → Sr99.Call → Prop) : Sp := fun vs H Q _ => ∃ (rq nl : Addr) (st : Sr99.State) (ow : List Addr) (z : Int) (ns : List Int) (c : Sr99.Call), vs = [.ref rq, .int z, .ref nl] ∧ ReqAt CP CO CR H rq st ow ∧ SqL K H nl (ns.map V.int) ∧
  ((z = 0 ∧ ∃ k, ns = [k] ∧ c = .create k) ∨ (z ≠ 0 ∧ (∀ k, c ≠ .create k) ∧ R z ns c)) ∧ Tabs (TT Pt) H ∧ stepPost CP CO CR Pt H rq ow (Sr99.step st c) Q
section
variable {P : Program} {w : World} {K : PySem.W.Frag} {mg : Str → Option Value} {base : Heap} {CP CO CR : Addr}
theorem scOperate : FnScope ["oven", "number", "numbers", "operation"] ["oven", "number", "numbers"] (defScope sOperate) := ⟨rfl, rfl, rfl, by decide +kernel, rfl, by decide +kernel, by decide +kernel⟩
theorem ok_operate {f d Pt : Addr} {fd : FuncData} {R : Int → List Int → Sr99.Call → Prop} (F : Fun K "operate" "operate" sOperate f fd) (gD : mg "OPERATIONS" = some (.ref d))
    (tab : ∀ z ns c, R z ns c → ∃ f', KDI K d z (.ref f') ∧ Held P w K mg base 10 f' (spOp K CP CO Pt (R z))) : FnOk P w K mg base CX0 11 f fd ["oven", "number", "numbers"] (spOperate K CP CO Pt R) := by
  refine F.ok scOperate (fun vs H Q E h => ?_) (fun cdv A outer s H vs Q E hr h => ⟨_, pss_cons (ps_set (i := 3) scOperate.nd rfl (Or.inl rfl) (pe_ix ix_kdictI (pe_glob (v := .ref d) rfl gD rfl) (pv 1) (fun _ _ => rfl)))
    (pss_one (ps_ret (pe_callRel (i := 3) (k := 10) (R := fun f' sp => ∃ z, sp = spOp K CP CO Pt (R z) ∧ Held P w K mg base 10 f' sp) (fun f' sp ⟨_, _, h⟩ => h) hr rfl (Or.inl rfl) (pa_cons (pv 0) (pa_cons (pv 2) pa_nil))))), ?_⟩)
  · obtain ⟨a, l, nl, o, z, ns, c, rfl, _⟩ := h
    rfl
  · obtain ⟨a, l, nl, o, z, ns, c, rfl, hO, hw, hN, hR, hT, k⟩ := h
    obtain ⟨f', k1, k2⟩ := tab z ns c hR
    exact ⟨_, rfl, d, z, _, rfl, rfl, k1, f', _, rfl, ⟨z, rfl, k2⟩, _, rfl, _, rfl, a, l, nl, o, ns, c, rfl, hO, hw, hN, hR, hT, k⟩
theorem scRInit : FnScope ["self"] ["self"] (defScope sRInit) := ⟨rfl, rfl, rfl, by decide +kernel, rfl, by decide +kernel, by decide +kernel⟩
theorem ok_rInit {f : Addr} {fd : FuncData} (F : Fun K "__init__" "Request.__init__" sRInit f fd) (T : Txt K mg CP CO CR) : FnOk P w K mg base CX0 1 f fd ["self"] (spRInit CR) := by
  refine F.ok scRInit (fun vs H Q E h => ?_) (fun cdv A outer s H vs Q E hr h => ⟨_, pss_one (ps_fld (pv 0) pe_non rfl), ?_⟩)
  · obtain ⟨p, dx, rfl, _⟩ := h
    rfl
  · obtain ⟨p, dx, rfl, hp, k⟩ := h
    exact ⟨_, rfl, p, CR, dx, [], rfl, hp, T.clR, T.rIn, (by show 0 < 1000; decide), k _ upd_same fun b hb => upd_ne hb⟩
theorem scRCreate : FnScope ["self", "capacity"] ["self", "capacity"] (defScope sRCreate) := ⟨rfl, rfl, rfl, by decide +kernel, rfl, by decide +kernel, by decide +kernel⟩
theorem req_ins {CP CO CR : Addr} {H : Hp} {rq : Addr} {st : Sr99.State} {ow : List Addr} (h : ReqAt CP CO CR H rq st ow) : ∃ dx v, H rq = some (.ins CR dx [("instance", v)]) ∧ rq ∈ ow := by
  cases h with
  | none h1 => exact ⟨_, _, h1, by simp⟩
  | some h1 h2 h3 => exact ⟨_, _, h1, by simp⟩
theorem req_ext {CP CO CR : Addr} {H H' : Hp} {rq : Addr} {st : Sr99.State} {ow : List Addr} (h : ReqAt CP CO CR H rq st ow) (e : ExtN H H') : ReqAt CP CO CR H' rq st ow := by
  cases h with
  | none h1 => exact .none (e _ _ h1 fun ps z => by cases z)
  | some h1 h2 h3 => exact .some (e _ _ h1 fun ps z => by cases z) (h2.ext e) h3
/-- an answer in a new list, the state as it was -/
theorem step_same {CP CO CR Pt : Addr} {H : Hp} {rq p : Addr} {st : Sr99.State} {ow : List Addr} {r : Sr99.State × SrCommon.Result} {Q : VK} {res : SrCommon.Result} {xs : List V} (h : ReqAt CP CO CR H rq st ow) (hT : Tabs (TT Pt) H) (e : r = (st, res)) (ex : xs = ansV res) (hp : H p = none) (k : stepPost CP CO CR Pt H rq ow r Q) :
    Q (.ref p) (upd H p (.lst xs)) := by
  subst e
  subst ex
  exact k _ p ow upd_same (req_ext h (ext_upd hp)) (fun b hb => .inl hb) (Fr.ext (ext_upd hp)) (tabs_upd hT hp) (New.of hp)
theorem ok_create {f fc fo Pt : Addr} {fd fdc fdo : FuncData} (F : Fun K "create" "Request.create" sRCreate f fd) (T : Txt K mg CP CO CR) (DC : Def P w K mg base "is_capacity" 1 ["capacity"] spIsCap fc fdc)
    (M : Mk K CO fo) (G : FnOk P w K mg base CX0 1 fo fdo ["self", "capacity"] (spOInit CO)) (bO : L2.Binds K fdo ["self", "capacity"] []) : FnOk P w K mg base CX0 3 f fd ["self", "capacity"] (spCreate CP CO CR Pt) := by
  refine F.ok scRCreate (fun vs H Q E h => ?_) (fun cdv A outer s H vs Q E hr h => ⟨_, pss_cons (ps_if (pt_not (pt_val (pe_def DC hr (by decide) rfl (pa_cons (pv 1) pa_nil)))) (pss_one (ps_ret (pe_lst (pa_cons (pe_gi rfl T.cOu) pa_nil)))) pss_nil)
    (pss_cons (ps_fld (pv 0) (pe_make M G (hr.mono (by decide)) rfl T.gO bO .nil pass0 (pa_cons (pv 1) pa_nil)) rfl) (pss_one (ps_ret (pe_lst (pa_cons pe_int pa_nil))))), ?_⟩)
  · obtain ⟨rq, st, ow, c, rfl, _⟩ := h
    rfl
  · obtain ⟨rq, st, ow, c, rfl, hR, hT, k⟩ := h
    rw [step_create] at k
    refine ⟨_, rfl, c, rfl, _, rfl, not_bool (fun hc => ?_) fun hc => ?_⟩
    · rw [if_neg (by rw [hc]; simp)] at k
      obtain ⟨dr, v, h1, hm⟩ := req_ins hR
      have h0 := isCap_iff.mp hc
      refine ⟨_, rfl, ?_⟩
      intro x dx nx nd ne
      refine ⟨x, dx, c, rfl, upd_same, fun H2 l nl0 hx hl f2 => ⟨rfl, ?_⟩⟩
      have sm : Same H H2 := Same.made nx nd fun b o q hb => f2 b o q hb
      have nxr : rq ≠ x := ne_of_none h1 nx
      have nlr : rq ≠ l := fun z => by
        have := sm rq _ h1
        rw [z, hl] at this
        cases this
      refine ⟨_, rfl, rq, CR, dr, _, rfl, sm rq _ h1, T.clR, T.rIn, (by show 1 < 1000; decide), ?_⟩
      have pe : putF "instance" (V.ref x) ([("instance", v)] : List (Str × V)) = ([("instance", .ref x)] : List (Str × V)) := put_here
      rw [pe]
      have T2 : Tabs (TT Pt) (upd H2 rq (.ins CR dr [("instance", .ref x)])) := tabs_put (hT.ext sm) (sm rq _ h1) (fun ps z => by cases z) (fun φ z => by cases z)
      have f3 : Fr ow H (upd H2 rq (.ins CR dr [("instance", .ref x)])) := (Fr.ext (same_ext sm)).trans (Fr.upd hm)
      have O2 : OvenAt CP CO (upd H2 rq (.ins CR dr [("instance", .ref x)])) x l ⟨[], c.toNat⟩ := by
        refine ⟨⟨dx, (upd_ne (Ne.symm nxr)).trans ?_⟩, [], (upd_ne (Ne.symm nlr)).trans hl, rfl, fun i p e => by simp at e⟩
        rw [hx]
        unfold oF
        rw [Int.toNat_of_nonneg (by omega)]
      have nl1 : H l = none := by
        have h3 : upd H dx (.own x) l = none := upd_none nl0
        exact upd_none h3
      refine ⟨(by show 1 ≤ sizeLine; decide), fun p hp => ?_⟩
      refine k _ p [rq, x, l] upd_same (req_ext (.some upd_same O2 (wf_new hc)) (ext_upd hp)) (fun b hb => ?_) (f3.trans (Fr.ext (ext_upd hp))) (tabs_upd T2 hp) ((New.of (upd_none hp)).back (same_ext sm))
      rcases List.mem_cons.mp hb with z | z
      · rw [z]; exact .inl hm
      · rcases List.mem_cons.mp z with z | z
        · rw [z]; exact .inr (New.of nx)
        · rw [List.mem_singleton.mp z]; exact .inr (New.of nl1)
    · rw [if_pos hc] at k
      exact ⟨(by show 1 ≤ sizeLine; decide), fun p hp => step_same hR hT rfl rfl hp k⟩
theorem scRAnswer : FnScope ["self", "number", "numbers"] ["self", "number", "numbers"] (defScope sRAnswer) := ⟨rfl, rfl, rfl, by decide +kernel, rfl, by decide +kernel, by decide +kernel⟩
theorem ok_answer {f fc fo Pt : Addr} {fd fdc fdo : FuncData} {R : Int → List Int → Sr99.Call → Prop} (F : Fun K "answer" "Request.answer" sRAnswer f fd) (T : Txt K mg CP CO CR)
    (mC : Meth K CR "create" fc) (GC : FnOk P w K mg base CX0 3 fc fdc ["self", "capacity"] (spCreate CP CO CR Pt)) (bC : L2.Binds K fdc ["self", "capacity"] [])
    (DO : Def P w K mg base "operate" 11 ["oven", "number", "numbers"] (spOperate K CP CO Pt R) fo fdo) : FnOk P w K mg base CX0 12 f fd ["self", "number", "numbers"] (spAnswer K CP CO CR Pt R) := by
  refine F.ok scRAnswer (fun vs H Q E h => ?_) (fun cdv A outer s H vs Q E hr h => ⟨_, pss_cons (ps_if (pt_cmpR op_eq (pv 1) (pe_gi rfl T.cCr) (nomark _)) (pss_one (ps_ret (pe_meth (pv 0) T.clR mC GC (hr.mono (by decide)) bC .nil pass0 (pa_cons (pe_ix ix_list (pv 2) pe_int (fun _ _ => rfl)) pa_nil)))) pss_nil)
    (pss_cons (ps_if (pt_cmpR op_isN (pe_fld (pv 0) rfl) pe_non (nomark _)) (pss_one (ps_ret (pe_lst (pa_cons (pe_gi rfl T.cNo) pa_nil)))) pss_nil)
    (pss_one (ps_ret (pe_def DO hr (by decide) rfl (pa_cons (pe_fld (pv 0) rfl) (pa_cons (pv 1) (pa_cons (pv 2) pa_nil))))))), ?_⟩)
  · obtain ⟨rq, nl, st, ow, z, ns, c, rfl, _⟩ := h
    rfl
  · obtain ⟨rq, nl, st, ow, z, ns, c, rfl, hR, hN, hc, hT, k⟩ := h
    obtain ⟨dr, v, h1, hm⟩ := req_ins hR
    refine ⟨_, rfl, rfl, _, rfl, ?_⟩
    rcases hc with ⟨rfl, kk, rfl, rfl⟩ | ⟨hz, hnc, hRz⟩
    · rw [show decide (V.int 0 = V.int 0) = true from decide_eq_true rfl]
      refine iteT ?_
      refine ⟨_, rfl, rq, dr, _, rfl, h1, lk_past (by decide +kernel), _, rfl, nl, _, 0, _, rfl, rfl, hN, at_of (j := 0) rfl rfl, rq, st, ow, kk, rfl, hR, hT, k⟩
    · rw [show decide (V.int z = V.int 0) = false from decide_eq_false fun e => hz (by injection e)]
      refine iteF ?_
      refine ⟨_, rfl, rq, CR, dr, _, _, rfl, h1, T.clR, T.rIn, lk_here, ?_⟩
      cases hR with
      | none h1' =>
        rw [h1] at h1'
        have ev : v = .non := by
          have := Option.some.inj h1'
          injection this with _ _ q
          have := (List.cons.inj q).1
          exact (Prod.mk.inj this).2
        subst ev
        rw [step_none hnc] at k
        refine ⟨rfl, _, rfl, ?_⟩
        rw [show decide (V.non = V.non) = true from decide_eq_true rfl]
        exact iteT ⟨(by show 1 ≤ sizeLine; decide), fun p hp => step_same (.none h1) hT rfl rfl hp k⟩
      | @some dx a l o h1' hO hw =>
        rw [h1] at h1'
        have ev : v = .ref a := by
          have := Option.some.inj h1'
          injection this with _ _ q
          have := (List.cons.inj q).1
          exact (Prod.mk.inj this).2
        subst ev
        rw [step_some hnc] at k
        refine ⟨rfl, _, rfl, ?_⟩
        rw [show decide (V.ref a = V.non) = false from decide_eq_false fun e => by cases e]
        refine iteF ⟨_, rfl, rq, CR, dr, _, _, rfl, h1, T.clR, T.rIn, lk_here, _, rfl, _, rfl, a, l, nl, o, z, ns, c, rfl, hO, hw, hN, hRz, hT, fun H' p l' p1 O2 hl' fr T2 np => ?_⟩
        have nra : rq ≠ a := fun e => by
          obtain ⟨⟨da, ha⟩, _⟩ := hO
          rw [e, ha] at h1
          have := Option.some.inj h1
          injection this with _ _ q
          have := congrArg List.length q
          simp [oF] at this
        have nrl : rq ≠ l := fun e => by
          obtain ⟨_, vs, hl, _⟩ := hO
          rw [e, hl] at h1
          cases h1
        have h2 : H' rq = _ := fr rq _ h1 (by simp [nra, nrl]) fun ps z => by cases z
        refine k H' p [rq, a, l'] p1 (.some h2 O2 (wf_perform hw c)) (fun b hb => ?_) (fun b u e n t => fr b u e (fun z => n (List.mem_cons_of_mem _ z)) t) T2 np
        rcases hl' with z | z
        · exact .inl (z ▸ hb)
        · rcases List.mem_cons.mp hb with y | y
          · exact .inl (y ▸ List.mem_cons_self ..)
          · rcases List.mem_cons.mp y with y | y
            · rw [y]
              exact .inl (by simp)
            · rw [List.mem_singleton.mp y]
              exact .inr z
end
end Ov
/-! tins: end_of_call, answers -/
namespace Ov
open PySem PySem.Spec PyProof.Rows L2 LamX NdefX OvS Ovb
abbrev sEnd : Stmt := top 65
abbrev sAns : Stmt := top 66
/-- how many whole numbers a call has, by its number -/
def countsL : List Int := [1, 3, 2, 3, 1, 1, 0, 1, 0, 1, 1, 2, 1, 2, 1, 1, 0]
theorem fixed_count {p : Int} {n : Nat} {args : List Int} {c : Sr99.Call} (h : Fixed p n args c) : 0 ≤ p ∧ p ≠ 15 ∧ countsL[p.toNat]? = some (n : Int) := by
  cases h <;> exact ⟨by decide, by decide, rfl⟩
/-- the table of operations: the number, its numbers, the call -/
def RT (z : Int) (ns : List Int) (c : Sr99.Call) : Prop := (z ≠ 0 ∧ ∃ n, Fixed z n ns c) ∨ (z = 15 ∧ ∃ m rows, ns = m :: rows ∧ rows.length ≤ 70 ∧ c = .checkBatches rows)
theorem spOp_imp {K : PySem.W.Frag} {CP CO Pt : Addr} {R R' : List Int → Sr99.Call → Prop} (h : ∀ ns c, R' ns c → R ns c) : ∀ vs H Q E, spOp K CP CO Pt R' vs H Q E → spOp K CP CO Pt R vs H Q E := fun vs H Q E ⟨a, l, nl, o, ns, c, h1, h2, h3, h4, h5, h6⟩ => ⟨a, l, nl, o, ns, c, h1, h2, h3, h4, h ns c h5, h6⟩
/-- an operation, ready to be called through the table -/
structure OpAt (P : Program) (w : World) (K : PySem.W.Frag) (mg : Str → Option Value) (base : Heap) (CP CO Pt d : Addr) (z : Int) (R : List Int → Sr99.Call → Prop) : Prop where
  ex : ∃ f fd, KDI K d z (.ref f) ∧ FnOk P w K mg base CX0 10 f fd ["oven", "numbers"] (spOp K CP CO Pt R) ∧ PySem.W.keepIn K (.ref f) = true ∧ L2.Binds K fd ["oven", "numbers"] []
theorem OpAt.held {P : Program} {w : World} {K : PySem.W.Frag} {mg : Str → Option Value} {base : Heap} {CP CO Pt d : Addr} {z : Int} {R : List Int → Sr99.Call → Prop} (A : OpAt P w K mg base CP CO Pt d z R) (h : ∀ ns c, RT z ns c → R ns c) :
    ∃ f', KDI K d z (.ref f') ∧ Held P w K mg base 10 f' (spOp K CP CO Pt (RT z)) := by
  obtain ⟨f, fd, h1, h2, h3, h4⟩ := A.ex
  exact ⟨f, h1, ⟨fd, _, h2.imp (spOp_imp h), h3, h4⟩⟩
structure Ops (P : Program) (w : World) (K : PySem.W.Frag) (mg : Str → Option Value) (base : Heap) (CP CO Pt d : Addr) : Prop where
  o1 : OpAt P w K mg base CP CO Pt d 1 fun ns c => ∃ lo hi t, ns = [lo, hi, t] ∧ c = .addProduct lo hi t
  o2 : OpAt P w K mg base CP CO Pt d 2 fun ns c => ∃ i t, ns = [i, t] ∧ c = .setTins i t
  o3 : OpAt P w K mg base CP CO Pt d 3 fun ns c => ∃ i lo hi, ns = [i, lo, hi] ∧ c = .setTemperatures i lo hi
  o4 : OpAt P w K mg base CP CO Pt d 4 fun ns c => ∃ i, ns = [i] ∧ c = .removeProduct i
  o5 : OpAt P w K mg base CP CO Pt d 5 fun ns c => ∃ k, ns = [k] ∧ c = .setCapacity k
  o6 : OpAt P w K mg base CP CO Pt d 6 fun ns c => c = .minBatches
  o7 : OpAt P w K mg base CP CO Pt d 7 fun ns c => ∃ k, ns = [k] ∧ c = .batch k
  o8 : OpAt P w K mg base CP CO Pt d 8 fun ns c => c = .temperatures
  o9 : OpAt P w K mg base CP CO Pt d 9 fun ns c => ∃ k, ns = [k] ∧ c = .bestOrder k
  o10 : OpAt P w K mg base CP CO Pt d 10 fun ns c => ∃ k, ns = [k] ∧ c = .minChange k
  o11 : OpAt P w K mg base CP CO Pt d 11 fun ns c => ∃ i j, ns = [i, j] ∧ c = .areCompatible i j
  o12 : OpAt P w K mg base CP CO Pt d 12 fun ns c => ∃ t, ns = [t] ∧ c = .fillBatch t
  o13 : OpAt P w K mg base CP CO Pt d 13 fun ns c => ∃ i t, ns = [i, t] ∧ c = .minBatchesIfTins i t
  o14 : OpAt P w K mg base CP CO Pt d 14 fun ns c => ∃ k, ns = [k] ∧ c = .minBatchesIfCapacity k
  o15 : OpAt P w K mg base CP CO Pt d 15 fun ns c => ∃ m rows, ns = m :: rows ∧ rows.length ≤ 70 ∧ c = .checkBatches rows
  o16 : OpAt P w K mg base CP CO Pt d 16 fun ns c => c = .describe
theorem rt_fixed {z : Int} {R : List Int → Sr99.Call → Prop} (n15 : z ≠ 15) (h : ∀ n ns c, Fixed z n ns c → R ns c) : ∀ ns c, RT z ns c → R ns c := fun ns c q => by
  rcases q with ⟨_, n, f⟩ | ⟨e, _⟩
  · exact h n ns c f
  · exact absurd e n15
theorem Ops.tab {P : Program} {w : World} {K : PySem.W.Frag} {mg : Str → Option Value} {base : Heap} {CP CO Pt d : Addr} (O : Ops P w K mg base CP CO Pt d) : ∀ z ns c, RT z ns c → ∃ f', KDI K d z (.ref f') ∧ Held P w K mg base 10 f' (spOp K CP CO Pt (RT z)) := by
  rintro z ns c (⟨hz, n, h⟩ | ⟨rfl, _⟩)
  · cases h with
    | c0 => exact absurd rfl hz
    | c1 => exact O.o1.held (rt_fixed (by decide) fun n ns c h => by cases h; exact ⟨_, _, _, rfl, rfl⟩)
    | c2 => exact O.o2.held (rt_fixed (by decide) fun n ns c h => by cases h; exact ⟨_, _, rfl, rfl⟩)
    | c3 => exact O.o3.held (rt_fixed (by decide) fun n ns c h => by cases h; exact ⟨_, _, _, rfl, rfl⟩)
    | c4 => exact O.o4.held (rt_fixed (by decide) fun n ns c h => by cases h; exact ⟨_, rfl, rfl⟩)
    | c5 => exact O.o5.held (rt_fixed (by decide) fun n ns c h => by cases h; exact ⟨_, rfl, rfl⟩)
    | c6 => exact O.o6.held (rt_fixed (by decide) fun n ns c h => by cases h; exact rfl)
    | c7 => exact O.o7.held (rt_fixed (by decide) fun n ns c h => by cases h; exact ⟨_, rfl, rfl⟩)
    | c8 => exact O.o8.held (rt_fixed (by decide) fun n ns c h => by cases h; exact rfl)
    | c9 => exact O.o9.held (rt_fixed (by decide) fun n ns c h => by cases h; exact ⟨_, rfl, rfl⟩)
    | c10 => exact O.o10.held (rt_fixed (by decide) fun n ns c h => by cases h; exact ⟨_, rfl, rfl⟩)
    | c11 => exact O.o11.held (rt_fixed (by decide) fun n ns c h => by cases h; exact ⟨_, _, rfl, rfl⟩)
    | c12 => exact O.o12.held (rt_fixed (by decide) fun n ns c h => by cases h; exact ⟨_, rfl, rfl⟩)
    | c13 => exact O.o13.held (rt_fixed (by decide) fun n ns c h => by cases h; exact ⟨_, _, rfl, rfl⟩)
    | c14 => exact O.o14.held (rt_fixed (by decide) fun n ns c h => by cases h; exact ⟨_, rfl, rfl⟩)
    | c16 => exact O.o16.held (rt_fixed (by decide) fun n ns c h => by cases h; exact rfl)
  · refine O.o15.held fun ns c q => ?_
    rcases q with ⟨_, n, f⟩ | ⟨_, q⟩
    · cases f
    · exact q
/-! ### end_of_call -/
def spEnd (K : PySem.W.Frag) : Sp := fun vs H Q _ => ∃ (cl : Addr) (l : List Int) (k k' : Nat) (p : Int), vs = [.ref cl, .int (k : Int)] ∧ SqL K H cl (l.map V.int) ∧ l[k]? = some p ∧
  ((∃ n : Nat, 0 ≤ p ∧ p ≠ 15 ∧ countsL[p.toNat]? = some (n : Int) ∧ k' = k + 1 + n) ∨ (p = 15 ∧ ∃ m : Nat, l[k + 1]? = some (m : Int) ∧ k' = k + 2 + m)) ∧ Q (.int (k' : Int)) H
theorem scEnd : FnScope ["calls", "at", "number", "end"] ["calls", "at"] (defScope sEnd) := ⟨rfl, rfl, rfl, by decide +kernel, rfl, by decide +kernel, by decide +kernel⟩
def spAns (K : PySem.W.Frag) (Pt : Addr) : Sp := fun vs H Q _ => ∃ (cl : Addr) (l : List Int), vs = [.ref cl] ∧ SqL K H cl (l.map V.int) ∧ Rest l 0 none [] ∧ (PySr99.answers l).length ≤ 10000000 ∧ Tabs (TT Pt) H ∧
  ∀ (H' : Hp) (p : Addr), H' p = some (.lst ((PySr99.answers l).map V.int)) → Q (.ref p) H'
theorem scAns : FnScope ["calls", "request", "answered", "at", "end", "answer"] ["calls"] (defScope sAns) := ⟨rfl, rfl, rfl, by decide +kernel, rfl, by decide +kernel, by decide +kernel⟩
theorem rest_len {l out : List Int} {k : Nat} {st : Sr99.State} (h : Rest l k st out) : out.length ≤ (PySr99.answers l).length := by
  obtain ⟨f, cs, _, _, h3⟩ := h
  rw [← h3, List.length_append]
  omega
theorem req_write {CP CO CR : Addr} {H : Hp} {rq ad : Addr} {st : Sr99.State} {ow : List Addr} {ys : List V} {o : HO} (h : ReqAt CP CO CR H rq st ow) (ha : H ad = some (.lst ys)) (hn : ∀ b ∈ ow, b ≠ ad) : ReqAt CP CO CR (upd H ad o) rq st ow := by
  cases h with
  | none h1 => exact .none ((upd_ne (hn _ (by simp))).trans h1)
  | some h1 h2 h3 =>
    obtain ⟨⟨dx, k1⟩, vs, k2, k3⟩ := h2
    refine .some ((upd_ne (hn _ (by simp))).trans h1) ⟨⟨dx, (upd_ne (hn _ (by simp))).trans k1⟩, vs, (upd_ne (hn _ (by simp))).trans k2, k3.keep fun c q ⟨d2, z⟩ => ⟨d2, (upd_ne fun z' => ?_).trans z⟩⟩ h3
    rw [z', ha] at z
    cases z
section
variable {P : Program} {w : World} {K : PySem.W.Frag} {mg : Str → Option Value} {base : Heap} {CP CO CR : Addr}
theorem ok_end {f tu : Addr} {fd : FuncData} (F : Fun K "end_of_call" "end_of_call" sEnd f fd) (T : Txt K mg CP CO CR) (gT : mg "PARAMETER_COUNTS" = some (.ref tu)) (hT : ∀ H, SqT K H tu (countsL.map V.int)) : FnOk P w K mg base CX0 1 f fd ["calls", "at"] (spEnd K) := by
  refine F.ok scEnd (fun vs H Q E h => ?_) (fun cdv A outer s H vs Q E hr h => ⟨_, pss_cons (ps_set (i := 2) scEnd.nd rfl (Or.inl rfl) (pe_ix ix_list (pv 0) (pv 1) (fun _ _ => rfl)))
    (pss_cons (ps_set (i := 3) scEnd.nd rfl (Or.inl rfl) (pe_op op_add (pe_op op_add (pv 1) pe_int) (pe_ix ix_tup (pe_glob (v := .ref tu) rfl gT rfl) (pv 2) (fun _ _ => rfl))))
    (pss_cons (ps_if (pt_cmpR op_eq (pv 2) (pe_gi rfl T.cCB) (nomark _)) (pss_one (ps_ret (pe_op op_add (pv 3) (pe_ix ix_list (pv 0) (pe_op op_add (pv 1) pe_int) (fun _ _ => rfl))))) pss_nil)
    (pss_one (ps_ret (pv 3))))), ?_⟩)
  · obtain ⟨cl, l, k, k', p, rfl, _⟩ := h
    rfl
  · obtain ⟨cl, l, k, k', p, rfl, hS, hp, hk, q⟩ := h
    refine ⟨_, rfl, _, rfl, cl, _, (k : Int), _, rfl, rfl, hS, atI_nat (num_at hp), ?_⟩
    rcases hk with ⟨n, p0, p15, hc, rfl⟩ | ⟨rfl, m, hm, rfl⟩
    · have ep : p = ((p.toNat : Nat) : Int) := by omega
      refine ⟨_, rfl, _, _, rfl, rfl, _, rfl, tu, _, p, _, rfl, rfl, hT H, at_of ep (num_at hc), _, _, rfl, rfl, ?_⟩
      refine ⟨_, rfl, rfl, _, rfl, ?_⟩
      rw [show decide (V.int p = V.int 15) = false from decide_eq_false fun e => p15 (by injection e)]
      refine iteF ⟨_, rfl, ?_⟩
      have e : (k : Int) + 1 + (n : Int) = ((k + 1 + n : Nat) : Int) := by omega
      show Q (V.int ((k : Int) + 1 + (n : Int))) H
      rw [e]
      exact q
    · refine ⟨_, rfl, _, _, rfl, rfl, _, rfl, tu, _, 15, _, rfl, rfl, hT H, at_of (j := 15) rfl rfl, _, _, rfl, rfl, ?_⟩
      refine ⟨_, rfl, rfl, _, rfl, ?_⟩
      rw [show decide (V.int 15 = V.int 15) = true from decide_eq_true rfl]
      refine iteT ⟨_, rfl, _, rfl, _, rfl, _, _, rfl, rfl, cl, _, (k : Int) + 1, _, rfl, rfl, hS, at_of (by omega) (num_at hm), _, _, rfl, rfl, ?_⟩
      have e : (k : Int) + 1 + 1 + (m : Int) = ((k + 2 + m : Nat) : Int) := by omega
      show Q (V.int ((k : Int) + 1 + 1 + (m : Int))) H
      rw [e]
      exact q
/-! ### answers -/
theorem ok_answers {f fe fr fn Pt : Addr} {fd fde fdr fdn : FuncData} (F : Fun K "answers" "answers" sAns f fd) (T : Txt K mg CP CO CR) (DE : Def P w K mg base "end_of_call" 1 ["calls", "at"] (spEnd K) fe fde)
    (M : Mk K CR fr) (GR : FnOk P w K mg base CX0 1 fr fdr ["self"] (spRInit CR)) (bR : L2.Binds K fdr ["self"] [])
    (mA : Meth K CR "answer" fn) (GA : FnOk P w K mg base CX0 12 fn fdn ["self", "number", "numbers"] (spAnswer K CP CO CR Pt RT)) (bA : L2.Binds K fdn ["self", "number", "numbers"] []) : FnOk P w K mg base CX0 13 f fd ["calls"] (spAns K Pt) := by
  refine F.ok scAns (fun vs H Q E h => ?_) (fun cdv A outer s H vs Q E hr h => ⟨_, pss_cons (ps_set (i := 1) scAns.nd rfl (Or.inl rfl) (pe_make0 M GR (hr.mono (by decide)) rfl T.gR bR .nil pass0))
    (pss_cons (ps_set (i := 2) scAns.nd rfl (Or.inl rfl) (pe_lst pa_nil))
    (pss_cons (ps_set (i := 3) scAns.nd rfl (Or.inl rfl) pe_int)
    (pss_cons (ps_while PassesOwn.never (pt_cmpR op_lt (pv 3) (pe_callB call_len_seq (by rfl) T.len PySem.boot_len (pa_cons (pv 0) pa_nil)) (nomark _))
      (pss_cons (ps_set (i := 4) scAns.nd rfl (Or.inl rfl) (pe_def DE hr (by decide) rfl (pa_cons (pv 0) (pa_cons (pv 3) pa_nil))))
      (pss_cons (ps_set (i := 5) scAns.nd rfl (Or.inl rfl) (pe_meth (pv 1) T.clR mA GA (hr.mono (by decide)) bA .nil pass0 (pa_cons (pe_ix ix_list (pv 0) (pv 3) (fun _ _ => rfl)) (pa_cons (pe_slice sl_list (pv 0) (po_some (pe_op op_add (pv 3) pe_int)) (po_some (pv 4))) pa_nil))))
      (pss_cons (ps_expr (pe_bm PySem.F.plainAttrs_list PySem.F.slot_list_append PySem.F.type_list_append mt_append (pv 2) (pa_cons (pe_callB call_len_seq (by rfl) T.len PySem.boot_len (pa_cons (pv 5) pa_nil)) pa_nil)))
      (pss_cons (ps_expr (pe_bm PySem.F.plainAttrs_list PySem.F.slot_list_extend PySem.F.type_list_extend mt_extend (pv 2) (pa_cons (pv 5) pa_nil)))
      (pss_one (ps_set (i := 3) scAns.nd rfl (Or.inl rfl) (pv 4))))))))
    (pss_one (ps_ret (pv 2)))))), ?_⟩)
  · obtain ⟨cl, l, rfl, _⟩ := h
    rfl
  obtain ⟨cl, l, rfl, hS, hR0, hB, hT, kk⟩ := h
  -- request = Request()
  intro rq dx nx nd ne
  refine ⟨rq, dx, rfl, upd_same, fun H1 hx f2 => ⟨rfl, ?_⟩⟩
  have s1 : Same H H1 := Same.made nx nd fun b o q hb => (f2 b hb).trans q
  -- answered = []
  refine ⟨(by show 0 ≤ sizeLine; decide), fun ad had => ?_⟩
  have nad : H ad = none := by
    cases e : H ad with
    | none => rfl
    | some u => rw [s1 ad u e] at had; cases had
  have s2 : Same H (upd H1 ad (.lst [])) := same_upd s1 nad
  have nra : rq ≠ ad := ne_of_none hx had
  have hx2 : upd H1 ad (.lst []) rq = some (.ins CR dx [("instance", .non)]) := (upd_ne nra).trans hx
  have had2 : upd H1 ad (.lst []) ad = some (.lst []) := upd_same
  generalize upd H1 ad (.lst []) = H2 at s2 hx2 had2
  have nwa : New H ad := New.of nad
  -- while at < len(calls)
  refine ⟨fun m σ H' => ∃ (k : Nat) (st : Sr99.State) (out : List Int) (ow : List Addr) (v4 v5 : Option V), σ = [some (.ref cl), some (.ref rq), some (.ref ad), some (.int (k : Int)), v4, v5] ∧ m = l.length - k ∧
    Rest l k st out ∧ ReqAt CP CO CR H' rq st ow ∧ (∀ b ∈ ow, New H b ∧ b ≠ ad) ∧ ExtN H H' ∧ Tabs (TT Pt) H' ∧ H' ad = some (.lst (out.map V.int)),
    ⟨_, 0, none, [], [rq], none, none, rfl, rfl, hR0, .none hx2, fun b hb => by rw [List.mem_singleton.mp hb]; exact ⟨New.of nx, nra⟩, same_ext s2, hT.ext s2, had2⟩, ?_⟩
  rintro m σ H3 ⟨k, st, out, ow, v4, v5, rfl, rfl, hR, hq, how, e3, T3, had3⟩
  have hS3 : SqL K H3 cl (l.map V.int) := ext_seq e3 hS
  refine ⟨_, rfl, _, rfl, cl, _, rfl, .inl hS3, _, _, rfl, rfl, _, rfl, ?_⟩
  rw [List.length_map]
  refine ite2 (fun c => ?_) fun c => ?_
  · have hk : k < l.length := by
      have := of_decide_eq_true c
      omega
    refine ⟨fun σ' H' => ∃ m', m' < l.length - k ∧ ∃ (k : Nat) (st : Sr99.State) (out : List Int) (ow : List Addr) (v4 v5 : Option V), σ' = [some (.ref cl), some (.ref rq), some (.ref ad), some (.int (k : Int)), v4, v5] ∧ m' = l.length - k ∧
      Rest l k st out ∧ ReqAt CP CO CR H' rq st ow ∧ (∀ b ∈ ow, New H b ∧ b ≠ ad) ∧ ExtN H H' ∧ Tabs (TT Pt) H' ∧ H' ad = some (.lst (out.map V.int)), fun σ' H' z => z, ?_⟩
    obtain ⟨p, call, args, k', hp, hkk, hkl, hR', hcase⟩ := rest_next hR hk
    -- end = end_of_call(calls, at)
    refine ⟨_, rfl, _, rfl, cl, l, k, k', p, rfl, hS3, hp, ?_, ?_⟩
    · rcases hcase with ⟨n, hF, e, _⟩ | ⟨rfl, m, hm, _, e, _⟩
      · obtain ⟨c1, c2, c3⟩ := fixed_count hF
        exact .inl ⟨n, c1, c2, c3, e⟩
      · exact .inr ⟨rfl, m, hm, e⟩
    -- answer = request.answer(..)
    obtain ⟨dr, vi, hrq, hmem⟩ := req_ins hq
    refine ⟨_, rfl, rq, dr, _, rfl, hrq, lk_past (by decide +kernel), ?_⟩
    refine ⟨_, rfl, _, rfl, cl, _, (k : Int), _, rfl, rfl, hS3, atI_nat (num_at hp), ?_⟩
    refine ⟨_, rfl, _, rfl, _, _, rfl, rfl, _, rfl, _, rfl, _, rfl, cl, _, rfl, hS3, fun nl hnl => ?_⟩
    rw [cut_mid (ns := l) (k := k) (n := k' - (k + 1)) (by omega) (by omega) (by omega)]
    have ex1 : ExtN H3 (upd H3 nl (.lst (((l.drop (k + 1)).take (k' - (k + 1))).map V.int))) := ext_upd hnl
    have hnl1 : upd H3 nl (.lst (((l.drop (k + 1)).take (k' - (k + 1))).map V.int)) nl = some (.lst (((l.drop (k + 1)).take (k' - (k + 1))).map V.int)) := upd_same
    have T4 : Tabs (TT Pt) (upd H3 nl (.lst (((l.drop (k + 1)).take (k' - (k + 1))).map V.int))) := tabs_upd T3 hnl
    generalize upd H3 nl (.lst (((l.drop (k + 1)).take (k' - (k + 1))).map V.int)) = H4 at ex1 hnl1 T4
    have e4 : ExtN H H4 := e3.trans ex1
    have had4 : H4 ad = some (.lst (out.map V.int)) := ex1 ad _ had3 fun ps z => by cases z
    refine ⟨rq, nl, st, ow, p, (l.drop (k + 1)).take (k' - (k + 1)), call, rfl, req_ext hq ex1, SqL.of hnl1, ?_, T4, ?_⟩
    · rcases hcase with ⟨n, hF, e, ea⟩ | ⟨rfl, m, hm, h70, e, ea, hal, _, ec⟩
      · have en : k' - (k + 1) = n := by omega
        rw [en, ← ea]
        cases hF with
        | c0 a => exact .inl ⟨rfl, a, rfl, rfl⟩
        | _ => exact .inr ⟨by decide, (fun _ z => by cases z), .inl ⟨by decide, _, by constructor⟩⟩
      · refine .inr ⟨by decide, (fun _ z => by rw [ec] at z; cases z), .inr ⟨rfl, (m : Int), args, ?_, by rw [hal]; exact h70, ec⟩⟩
        have en : k' - (k + 1) = m + 1 := by omega
        have hk1 : k + 1 < l.length := by omega
        have ed : l.drop (k + 1) = (m : Int) :: l.drop (k + 2) := by
          rw [List.drop_eq_getElem_cons hk1]
          congr 1
          rw [List.getElem?_eq_getElem hk1] at hm
          exact Option.some.inj hm
        rw [en, ed, List.take_succ_cons, ea]
    intro H5 p5 ow' h1 h2 h3 h4 h5 h6
    have nado : ad ∉ ow := fun z => (how ad z).2 rfl
    have had5 : H5 ad = some (.lst (out.map V.int)) := h4 ad _ had4 nado fun ps z => by cases z
    have e5 : ExtN H H5 := fun b u e t => h4 b u (e4 b u e t) (fun z => (how b z).1.ne e t rfl) t
    have how' : ∀ b ∈ ow', New H b ∧ b ≠ ad := fun b hb => by
      rcases h3 b hb with z | z
      · exact how b z
      · exact ⟨z.back e4, Ne.symm (z.ne had4 fun ps y => by cases y)⟩
    have npa : p5 ≠ ad := Ne.symm (h6.ne had4 fun ps y => by cases y)
    have hlen := rest_len hR'
    have hout : (out ++ ((said (Sr99.step st call).2).length : Int) :: said (Sr99.step st call).2).length = out.length + 1 + (said (Sr99.step st call).2).length := by
      rw [List.length_append, List.length_cons]
      omega
    have ea : ansV (Sr99.step st call).2 = (said (Sr99.step st call).2).map V.int := rfl
    rw [ea] at h1
    -- answered.append(len(answer))
    refine ⟨_, rfl, .inl ⟨rfl, _, .inl (.inl had5)⟩, _, rfl, p5, _, rfl, .inl (SqL.of h1), ad, _, _, rfl, rfl, had5, ?_, ?_⟩
    · rw [List.length_map, sizeLine_eq]
      omega
    rw [List.length_map]
    have T6 : Tabs (TT Pt) (upd H5 ad (.lst (out.map V.int ++ [.int ((said (Sr99.step st call).2).length : Int)]))) := tabs_put h5 had5 (fun ps z => by cases z) (fun φ z => by cases z)
    have q6 : ReqAt CP CO CR (upd H5 ad (.lst (out.map V.int ++ [.int ((said (Sr99.step st call).2).length : Int)]))) rq (Sr99.step st call).1 ow' := req_write h2 had5 fun b hb => (how' b hb).2
    have e6 : ExtN H (upd H5 ad (.lst (out.map V.int ++ [.int ((said (Sr99.step st call).2).length : Int)]))) := fun b u e t => (upd_ne (nwa.ne e t)).trans (e5 b u e t)
    have had6 : upd H5 ad (.lst (out.map V.int ++ [.int ((said (Sr99.step st call).2).length : Int)])) ad = some (.lst (out.map V.int ++ [.int ((said (Sr99.step st call).2).length : Int)])) := upd_same
    have hp6 : upd H5 ad (.lst (out.map V.int ++ [.int ((said (Sr99.step st call).2).length : Int)])) p5 = some (.lst ((said (Sr99.step st call).2).map V.int)) := (upd_ne npa).trans h1
    generalize upd H5 ad (.lst (out.map V.int ++ [.int ((said (Sr99.step st call).2).length : Int)])) = H6 at T6 q6 e6 had6 hp6
    -- answered.extend(answer)
    refine ⟨_, rfl, .inl ⟨rfl, _, .inl (.inl had6)⟩, _, rfl, ad, p5, _, _, rfl, rfl, had6, hp6, ?_, ?_⟩
    · rw [List.length_append, List.length_map, List.length_map, List.length_singleton, sizeLine_eq]
      omega
    -- at = end
    refine ⟨_, rfl, l.length - k', by omega, k', _, _, ow', _, _, rfl, rfl, hR', req_write q6 had6 fun b hb => (how' b hb).2, how', fun b u e t => (upd_ne (nwa.ne e t)).trans (e6 b u e t), tabs_put T6 had6 (fun ps z => by cases z) (fun φ z => by cases z), ?_⟩
    rw [upd_same, List.append_assoc, List.map_append, List.map_cons]
    rfl
  · have hk : l.length ≤ k := by
      have : ¬ ((k : Int) < (l.length : Int)) := fun z => c (decide_eq_true z)
      omega
    have eo := rest_end hR hk
    rw [eo] at had3
    exact ⟨_, rfl, kk H3 ad had3⟩
end
end Ov
/-! The end: what the top has left, fact by fact; all promises together. -/
namespace Ov
open PySem PySem.Spec PyProof.Rows L2 LamX NdefX OvS Ovb OvE
open PySem.W (CodeHd)
/-- a def of the module where the top has left it -/
structure FD (K : PySem.W.Frag) (mg : Str → Option Value) (x : Str) (st : Stmt) (f : Addr) (fd : FuncData) : Prop where
  gl : mg x = some (.ref f)
  F : Fun K x x st f fd
theorem use_def {K : PySem.W.Frag} {h : Heap} {mg : Str → Option Value} (x : Str) (st : Stmt) {G0 : Prop} {f : Addr} {od an : Option Addr} {oc kV dc pm cd ct : Value} {sl : Array (Option Value)} (X : K.In h) (G : h.Ns mainGlobals mg)
    (a : PySem.W.nsIn K mainGlobals x = some (some (.ref f))) (l : K.lookup f = some ⟨oc, od, .func (PySem.W.fnOf x x (defArgs st) (defBody st) (defScope st) .none kV dc pm an cd ct), sl⟩) (c : PySem.W.codeIn K cd x = true) (k : PySem.W.keepIn K (.ref f) = true)
    (q : ∀ (f : Addr) (fd : FuncData), FD K mg x st f fd → G0) : G0 := q _ _ ⟨PySem.W.mg_of X G a, fun_mk (st := st) l c k⟩
/-- the def's own address stays in sight -/
theorem use_op {K : PySem.W.Frag} {h : Heap} {mg : Str → Option Value} (x : Str) (st : Stmt) (z : Int) {G0 : Prop} {f d : Addr} {es : Array DictEntry} {n : Nat} {od an : Option Addr} {oc kV dc pm cd ct : Value} {sl : Array (Option Value)} (X : K.In h) (G : h.Ns mainGlobals mg)
    (D : K.lookup d = some ⟨.type "dict", none, .dict es n, #[]⟩ ∧ es.toList.all intLit = true)
    (a : PySem.W.nsIn K mainGlobals x = some (some (.ref f))) (l : K.lookup f = some ⟨oc, od, .func (PySem.W.fnOf x x (defArgs st) (defBody st) (defScope st) .none kV dc pm an cd ct), sl⟩) (c : PySem.W.codeIn K cd x = true) (k : PySem.W.keepIn K (.ref f) = true)
    (e : findBy Value.isInt es z = some (.ref f)) (q : ∀ (f : Addr) (fd : FuncData), FD K mg x st f fd → KDI K d z (.ref f) → G0) : G0 := q _ _ ⟨PySem.W.mg_of X G a, fun_mk (st := st) l c k⟩ ⟨es, n, _, D.1, D.2, e, rfl⟩
theorem use_dict {K : PySem.W.Frag} {h : Heap} {mg : Str → Option Value} (x : Str) {G0 : Prop} {d : Addr} {es : Array DictEntry} {n : Nat} (X : K.In h) (G : h.Ns mainGlobals mg) (a : PySem.W.nsIn K mainGlobals x = some (some (.ref d))) (l : K.lookup d = some ⟨.type "dict", none, .dict es n, #[]⟩)
    (e : es.toList.all intLit = true) (q : mg x = some (.ref d) → (K.lookup d = some ⟨.type "dict", none, .dict es n, #[]⟩ ∧ es.toList.all intLit = true) → G0) : G0 := q (PySem.W.mg_of X G a) ⟨l, e⟩
/-- a tuple's items are these ints -/
def intsB : List Int → List Value → Bool
  | [], [] => true
  | i :: r, .int j _ :: us => decide (i = j) && intsB r us
  | _, _ => false
theorem vals_intsB : ∀ (l : List Int) (us : List Value), intsB l us = true → Vals (l.map V.int) us
  | [], [], _ => .nil
  | i :: r, .int j t :: us, h => by
    have h' : (decide (i = j) && intsB r us) = true := h
    rw [Bool.and_eq_true, decide_eq_true_eq] at h'
    exact .cons ⟨t, by rw [h'.1]⟩ (vals_intsB r us h'.2)
theorem use_tup {K : PySem.W.Frag} {h : Heap} {mg : Str → Option Value} (x : Str) (ns : List Int) {G0 : Prop} {tu : Addr} {od : Option Addr} {its : Array Value} {n : Nat} {sl : Array (Option Value)} (X : K.In h) (G : h.Ns mainGlobals mg) (a : PySem.W.nsIn K mainGlobals x = some (some (.ref tu)))
    (l : K.lookup tu = some ⟨.type "tuple", od, .seq its n, sl⟩) (e : intsB ns its.toList = true) (z : its.size ≤ 64) (q : ∀ tu : Addr, mg x = some (.ref tu) → (∀ H, SqT K H tu (ns.map V.int)) → G0) : G0 :=
  q tu (PySem.W.mg_of X G a) fun H => .inr ⟨_, its, n, l, rfl, rfl, Nat.le_trans z (by show 64 ≤ sizeLine; decide), vals_intsB _ _ e⟩
theorem use_int {K : PySem.W.Frag} {h : Heap} {mg : Str → Option Value} (x : Str) (i : Int) {G0 : Prop} {t : Tok} (X : K.In h) (G : h.Ns mainGlobals mg) (a : PySem.W.nsIn K mainGlobals x = some (some (.int i t))) (q : (∃ t, mg x = some (.int i t)) → G0) : G0 := q ⟨t, PySem.W.mg_of X G a⟩
theorem use_none {K : PySem.W.Frag} {h : Heap} {mg : Str → Option Value} (x : Str) {G0 : Prop} (X : K.In h) (G : h.Ns mainGlobals mg) (a : PySem.W.nsIn K mainGlobals x = some none) (q : mg x = none → G0) : G0 := q (PySem.W.mg_none_of X G a)
structure CD (K : PySem.W.Frag) (mg : Str → Option Value) (x : Str) (C : Addr) : Prop where
  gl : mg x = some (.ref C)
  cl : Cls K C
  mks : PySem.W.makesIn K C = true
  kc : PySem.W.keepIn K (.ref C) = true
theorem use_cls {K : PySem.W.Frag} {h : Heap} {mg : Str → Option Value} (x : Str) {G0 : Prop} {C : Addr} (X : K.In h) (G : h.Ns mainGlobals mg) (a : PySem.W.nsIn K mainGlobals x = some (some (.ref C)))
    (pg : PySem.W.plainGet K C Str.empty = true) (hd : PySem.W.hasDictIn K C = true) (po : PySem.W.plainOver K C = true) (sa : PySem.W.findIn K (.ref C) "__setattr__" = some (some (.builtin "object.__setattr__"))) (mk : PySem.W.makesIn K C = true) (kc : PySem.W.keepIn K (.ref C) = true)
    (q : CD K mg x C → G0) : G0 := q ⟨PySem.W.mg_of X G a, ⟨pg, hd, po, sa⟩, mk, kc⟩
theorem use_no {K : PySem.W.Frag} {mg : Str → Option Value} {x : Str} (f : Str) {G0 : Prop} {C : Addr} (D : CD K mg x C) (a : PySem.W.findIn K (.ref C) f = some none) (q : NoAttr K C f → G0) : G0 := q a
structure MD (K : PySem.W.Frag) (C : Addr) (m qual : Str) (st : Stmt) (f : Addr) (fd : FuncData) : Prop where
  at_ : PySem.W.findIn K (.ref C) m = some (some (.ref f))
  fn : PySem.W.isFn K (.ref f) = true
  F : Fun K m qual st f fd
theorem use_meth {K : PySem.W.Frag} {mg : Str → Option Value} {x : Str} (m qual : Str) (st : Stmt) {G0 : Prop} {C f : Addr} {od an : Option Addr} {oc kV dc pm cd ct : Value} {sl : Array (Option Value)} (D : CD K mg x C) (a : PySem.W.findIn K (.ref C) m = some (some (.ref f))) (i : PySem.W.isFn K (.ref f) = true)
    (l : K.lookup f = some ⟨oc, od, .func (PySem.W.fnOf m qual (defArgs st) (defBody st) (defScope st) .none kV dc pm an cd ct), sl⟩) (c : PySem.W.codeIn K cd qual = true) (k : PySem.W.keepIn K (.ref f) = true) (q : ∀ (f : Addr) (fd : FuncData), MD K C m qual st f fd → G0) : G0 := q _ _ ⟨a, i, fun_mk (st := st) l c k⟩
theorem tab_is {K : PySem.W.Frag} {x : Str} {f c P : Addr} {oc oc' : Value} {od od' : Option Addr} {fd : FuncData} {sl sl' : Array (Option Value)} {vs : Array Value} (a : PySem.W.nsIn K mainGlobals x = some (some (.ref f))) (l : K.lookup f = some ⟨oc, od, .func fd, sl⟩) (hc : fd.code = .ref c)
    (lc : K.lookup c = some ⟨oc', od', .fields vs, sl'⟩) (hv : vs[11]? = some (.ref P)) : PySem.W.tabIn K x = some (c, P) := by
  unfold PySem.W.tabIn
  rw [a]
  dsimp only
  rw [l]
  dsimp only
  rw [hc]
  dsimp only
  rw [lc]
  dsimp only
  rw [hv]
/-- filling_order, its code object at c, the table at P -/
structure LD (K : PySem.W.Frag) (h : Heap) (mg : Str → Option Value) (f c P : Addr) (fd : FuncData) : Prop where
  gl : mg "filling_order" = some (.ref f)
  F : FunC K "filling_order" "filling_order" sOrder f c fd
  hd : CodeHd h c P
  at_ : h.get? P = some { cls := .none, data := .fields #[] }
  no : K.lookup P = none
theorem use_lam {K : PySem.W.Frag} {h : Heap} {mg : Str → Option Value} {G0 : Prop} {f c P : Addr} {od an od' : Option Addr} {oc kV dc pm ct oc' : Value} {sl sl' : Array (Option Value)} {vs : Array Value} (X : K.In h) (G : h.Ns mainGlobals mg)
    (HT : ∀ (c P : Addr), PySem.W.tabIn K "filling_order" = some (c, P) → CodeHd h c P ∧ h.get? P = some { cls := .none, data := .fields #[] })
    (a : PySem.W.nsIn K mainGlobals "filling_order" = some (some (.ref f))) (l : K.lookup f = some ⟨oc, od, .func (PySem.W.fnOf "filling_order" "filling_order" (defArgs sOrder) (defBody sOrder) (defScope sOrder) .none kV dc pm an (.ref c) ct), sl⟩)
    (hc : PySem.W.codeIn K (.ref c) "filling_order" = true) (k : PySem.W.keepIn K (.ref f) = true) (lc : K.lookup c = some ⟨oc', od', .fields vs, sl'⟩) (hv : vs[11]? = some (.ref P)) (no : K.lookup P = none)
    (q : ∀ (f c P : Addr) (fd : FuncData), LD K h mg f c P fd → G0) : G0 := by
  obtain ⟨h1, h2⟩ := HT c P (tab_is a l rfl lc hv)
  exact q f c P _ ⟨PySem.W.mg_of X G a, ⟨⟨_, _, _, _, _, _, _, _, rfl, l, hc⟩, k⟩, h1, h2, no⟩
/-- answers' promise, with the tables as they are at the entry -/
def spTop (K : PySem.W.Frag) (cs : List (Addr × Addr)) : Sp := fun vs H Q _ => ∃ (cl : Addr) (l : List Int), vs = [.ref cl] ∧ SqL K H cl (l.map V.int) ∧ PySr99.answers_asked l = true ∧ (∀ p ∈ cs, H p.2 = some (.tbl #[])) ∧
  ∀ (H' : Hp) (p : Addr), H' p = some (.lst ((PySr99.answers l).map V.int)) → Q (.ref p) H'
theorem sp_top {K : PySem.W.Frag} {c Pt : Addr} : ∀ vs H Q E, spTop K [(c, Pt)] vs H Q E → spAns K Pt vs H Q E := fun vs H Q E ⟨cl, l, h1, h2, h3, h4, h5⟩ => by
  obtain ⟨r1, r2⟩ := rest_start h3
  refine ⟨cl, l, h1, h2, r1, r2, fun p hp => ?_, h5⟩
  rw [List.mem_singleton.mp hp]
  exact TabS.nil (h4 (c, Pt) (by simp))

theorem fin {P : Program} {w : World} {K : PySem.W.Frag} {h : Heap} {mg : Str → Option Value} {CP CO CR d tu fa fOrder cOrder Pt : Addr} {fdOrder : FuncData}
    {fisCap fisTemp fisRange fisTins ftotal fleast fbaked fshared fallT ffilled fnext fplanned fisList fbIn ftog fhold fisSol fhas fbOf fptemps fwith fadd fsett fsetm frem fsetc fminb fbat ftemps fbest fminc fcompat ffillb fiftins fifcap fcheck fdescr foper fend fans : Addr} {gisCap gisTemp gisRange gisTins gtotal gleast gbaked gshared gallT gfilled gnext gplanned gisList gbIn gtog ghold gisSol ghas gbOf gptemps gwith gadd gsett gsetm grem gsetc gminb gbat gtemps gbest gminc gcompat gfillb giftins gifcap gcheck gdescr goper gend gans : FuncData}
    {fPI fOI fRI fRC fRA : Addr} {gPI gOI gRI gRC gRA : FuncData}
    (T : Txt K mg CP CO CR) (hfa : mg "answers" = some (.ref fa)) (LO : LD K h mg fOrder cOrder Pt fdOrder) (gD : mg "OPERATIONS" = some (.ref d)) (gT : mg "PARAMETER_COUNTS" = some (.ref tu)) (hT : ∀ H, SqT K H tu (countsL.map V.int))
    (EP : CD K mg "Product" CP) (EO : CD K mg "Oven" CO) (ER : CD K mg "Request" CR)
    (mPI : MD K CP "__init__" "Product.__init__" sPInit fPI gPI) (mOI : MD K CO "__init__" "Oven.__init__" sOInit fOI gOI) (mRI : MD K CR "__init__" "Request.__init__" sRInit fRI gRI) (mRC : MD K CR "create" "Request.create" sRCreate fRC gRC) (mRA : MD K CR "answer" "Request.answer" sRAnswer fRA gRA)
    (DisCap : FD K mg "is_capacity" sIsCap fisCap gisCap)
    (DisTemp : FD K mg "is_temperature" sIsTemp fisTemp gisTemp)
    (DisRange : FD K mg "is_temperature_range" sIsRange fisRange gisRange)
    (DisTins : FD K mg "is_number_of_tins" sIsTins fisTins gisTins)
    (Dtotal : FD K mg "total_change" sTotal ftotal gtotal)
    (Dleast : FD K mg "order_of_least_change" sLeast fleast gleast)
    (Dbaked : FD K mg "can_be_baked" sBaked fbaked gbaked)
    (Dshared : FD K mg "have_a_shared_temperature" sShared fshared gshared)
    (DallT : FD K mg "all_tins" sAllT fallT gallT)
    (Dfilled : FD K mg "filled_batch" sFilled ffilled gfilled)
    (Dnext : FD K mg "next_temperature" sNext fnext gnext)
    (Dplanned : FD K mg "planned_batches" sPlanned fplanned gplanned)
    (DisList : FD K mg "is_list_of_batches" sIsList fisList gisList)
    (DbIn : FD K mg "batches_in" sBatchesIn fbIn gbIn)
    (Dtog : FD K mg "can_be_baked_together" sTogether ftog gtog)
    (Dhold : FD K mg "hold_all_tins" sHold fhold ghold)
    (DisSol : FD K mg "is_solution" sIsSol fisSol gisSol)
    (Dhas : FD K mg "has_product" sHas fhas ghas)
    (DbOf : FD K mg "batches_of" sBatchesOf fbOf gbOf)
    (Dptemps : FD K mg "planned_temperatures" sPTemps fptemps gptemps)
    (Dwith : FD K mg "with_tins" sWith fwith gwith)
    (Dadd : FD K mg "add_product" sAdd fadd gadd)
    (Dsett : FD K mg "set_tins" sSetTins fsett gsett)
    (Dsetm : FD K mg "set_temperatures" sSetTemp fsetm gsetm)
    (Drem : FD K mg "remove_product" sRemove frem grem)
    (Dsetc : FD K mg "set_capacity" sSetCap fsetc gsetc)
    (Dminb : FD K mg "min_batches" sMinB fminb gminb)
    (Dbat : FD K mg "batch" sBatch fbat gbat)
    (Dtemps : FD K mg "temperatures" sTemps ftemps gtemps)
    (Dbest : FD K mg "best_order" sBest fbest gbest)
    (Dminc : FD K mg "min_change" sMinC fminc gminc)
    (Dcompat : FD K mg "are_compatible" sCompat fcompat gcompat)
    (Dfillb : FD K mg "fill_batch" sFillB ffillb gfillb)
    (Diftins : FD K mg "min_batches_if_tins" sIfTins fiftins giftins)
    (Difcap : FD K mg "min_batches_if_capacity" sIfCap fifcap gifcap)
    (Dcheck : FD K mg "check_batches" sCheck fcheck gcheck)
    (Ddescr : FD K mg "describe" sDescr fdescr gdescr)
    (Doper : FD K mg "operate" sOperate foper goper)
    (Dend : FD K mg "end_of_call" sEnd fend gend)
    (Dans : FD K mg "answers" sAns fans gans)
    (tadd : KDI K d 1 (.ref fadd))
    (tsett : KDI K d 2 (.ref fsett))
    (tsetm : KDI K d 3 (.ref fsetm))
    (trem : KDI K d 4 (.ref frem))
    (tsetc : KDI K d 5 (.ref fsetc))
    (tminb : KDI K d 6 (.ref fminb))
    (tbat : KDI K d 7 (.ref fbat))
    (ttemps : KDI K d 8 (.ref ftemps))
    (tbest : KDI K d 9 (.ref fbest))
    (tminc : KDI K d 10 (.ref fminc))
    (tcompat : KDI K d 11 (.ref fcompat))
    (tfillb : KDI K d 12 (.ref ffillb))
    (tiftins : KDI K d 13 (.ref fiftins))
    (tifcap : KDI K d 14 (.ref fifcap))
    (tcheck : KDI K d 15 (.ref fcheck))
    (tdescr : KDI K d 16 (.ref fdescr))
    : ∃ (fd : FuncData) (cs : List (Addr × Addr)), TabsIn K h cs ∧ (∀ (s : Shared) (us : List Value), us.length = (["calls"] : List Str).length → BindsTo s fd ⟨us, []⟩ ((["calls"] : List Str).zip us)) ∧
        ∀ base : Heap, K.In base → base.Ns mainGlobals mg → (∀ p ∈ cs, TabB base mg p.1 p.2) → FnOk P w K mg base CX0 13 fa fd ["calls"] (spTop K cs) := by
  have e : fa = fans := by
    have e := hfa.symm.trans Dans.gl
    injection e with e
    injection e
  subst e
  refine ⟨gans, [(cOrder, Pt)], ⟨fun p hp => ?_, fun p hp => ?_, fun p hp => ?_⟩, fun s us hu => ?_, fun base KB GB TBS => ?_⟩
  · rw [List.mem_singleton.mp hp]
    exact LO.at_
  · rw [List.mem_singleton.mp hp]
    exact LO.no
  · rw [List.mem_singleton.mp hp]
    exact LO.hd
  · obtain ⟨oc, od, kV, doc, pm, an, cdv, ct, osl, rfl, lk, hcd⟩ := Dans.F.ex
    exact match us, hu with | [_], _ => .of_eq rfl
  have TB : TabB base mg cOrder Pt := TBS (cOrder, Pt) (by simp)
  have FO := LO.F
  have bP := mPI.F.binds (ps := ["self", "min_temperature", "max_temperature", "tins"]) fun _ _ _ _ _ _ us hl => match us, hl with | [_, _, _, _], _ => rfl
  have bO := mOI.F.binds (ps := ["self", "capacity"]) fun _ _ _ _ _ _ us hl => match us, hl with | [_, _], _ => rfl
  have bR := mRI.F.binds (ps := ["self"]) fun _ _ _ _ _ _ us hl => match us, hl with | [_], _ => rfl
  have bC := mRC.F.binds (ps := ["self", "capacity"]) fun _ _ _ _ _ _ us hl => match us, hl with | [_, _], _ => rfl
  have bA := mRA.F.binds (ps := ["self", "number", "numbers"]) fun _ _ _ _ _ _ us hl => match us, hl with | [_, _, _], _ => rfl
  have MP : Mk K CP fPI := ⟨EP.mks, mPI.at_, mPI.fn, EP.kc⟩
  have MO : Mk K CO fOI := ⟨EO.mks, mOI.at_, mOI.fn, EO.kc⟩
  have MR : Mk K CR fRI := ⟨ER.mks, mRI.at_, mRI.fn, ER.kc⟩
  have GP : FnOk P w K mg base CX0 1 fPI gPI ["self", "min_temperature", "max_temperature", "tins"] (spPInit CP) := ok_pInit mPI.F T
  have GO : FnOk P w K mg base CX0 1 fOI gOI ["self", "capacity"] (spOInit CO) := ok_oInit mOI.F T
  have GR : FnOk P w K mg base CX0 1 fRI gRI ["self"] (spRInit CR) := ok_rInit mRI.F T
  have KisCap : Def P w K mg base "is_capacity" 1 ["capacity"] spIsCap fisCap gisCap := ⟨DisCap.gl, ok_isCap DisCap.F T, DisCap.F.kp, DisCap.F.binds (ps := ["capacity"]) fun _ _ _ _ _ _ us hl => match us, hl with | [_], _ => rfl⟩
  have KisTemp : Def P w K mg base "is_temperature" 1 ["temperature"] spIsTemp fisTemp gisTemp := ⟨DisTemp.gl, ok_isTemp DisTemp.F T, DisTemp.F.kp, DisTemp.F.binds (ps := ["temperature"]) fun _ _ _ _ _ _ us hl => match us, hl with | [_], _ => rfl⟩
  have KisRange : Def P w K mg base "is_temperature_range" 1 ["min_temperature", "max_temperature"] spIsRange fisRange gisRange := ⟨DisRange.gl, ok_isRange DisRange.F T, DisRange.F.kp, DisRange.F.binds (ps := ["min_temperature", "max_temperature"]) fun _ _ _ _ _ _ us hl => match us, hl with | [_, _], _ => rfl⟩
  have KisTins : Def P w K mg base "is_number_of_tins" 1 ["tins"] spIsTins fisTins gisTins := ⟨DisTins.gl, ok_isTins DisTins.F T, DisTins.F.kp, DisTins.F.binds (ps := ["tins"]) fun _ _ _ _ _ _ us hl => match us, hl with | [_], _ => rfl⟩
  have Ktotal : Def P w K mg base "total_change" 1 ["start", "degrees"] spTotal ftotal gtotal := ⟨Dtotal.gl, ok_total Dtotal.F T, Dtotal.F.kp, Dtotal.F.binds (ps := ["start", "degrees"]) fun _ _ _ _ _ _ us hl => match us, hl with | [_, _], _ => rfl⟩
  have Kleast : Def P w K mg base "order_of_least_change" 2 ["start", "degrees"] spLeast fleast gleast := ⟨Dleast.gl, ok_least Dleast.F T Ktotal, Dleast.F.kp, Dleast.F.binds (ps := ["start", "degrees"]) fun _ _ _ _ _ _ us hl => match us, hl with | [_, _], _ => rfl⟩
  have Kbaked : Def P w K mg base "can_be_baked" 1 ["product", "temperature"] (spBaked CP) fbaked gbaked := ⟨Dbaked.gl, ok_baked Dbaked.F T, Dbaked.F.kp, Dbaked.F.binds (ps := ["product", "temperature"]) fun _ _ _ _ _ _ us hl => match us, hl with | [_, _], _ => rfl⟩
  have Kshared : Def P w K mg base "have_a_shared_temperature" 1 ["product", "other"] (spShared CP) fshared gshared := ⟨Dshared.gl, ok_shared Dshared.F T, Dshared.F.kp, Dshared.F.binds (ps := ["product", "other"]) fun _ _ _ _ _ _ us hl => match us, hl with | [_, _], _ => rfl⟩
  have KallT : Def P w K mg base "all_tins" 1 ["products"] (spAllT CP) fallT gallT := ⟨DallT.gl, ok_allT DallT.F T, DallT.F.kp, DallT.F.binds (ps := ["products"]) fun _ _ _ _ _ _ us hl => match us, hl with | [_], _ => rfl⟩
  have Korder : Def P w K mg base "filling_order" 4 ["products"] (spOrder CP Pt) fOrder fdOrder := ⟨LO.gl, ok_order FO T TB, FO.kp, FO.to.binds (ps := ["products"]) fun _ _ _ _ _ _ us hl => match us, hl with | [_], _ => rfl⟩
  have Kfilled : Def P w K mg base "filled_batch" 5 ["products", "remaining", "capacity", "temperature"] (spFilled CP Pt) ffilled gfilled := ⟨Dfilled.gl, ok_filled Dfilled.F T Korder Kbaked, Dfilled.F.kp, Dfilled.F.binds (ps := ["products", "remaining", "capacity", "temperature"]) fun _ _ _ _ _ _ us hl => match us, hl with | [_, _, _, _], _ => rfl⟩
  have Knext : Def P w K mg base "next_temperature" 1 ["products", "remaining"] (spNext CP (TT Pt)) fnext gnext := ⟨Dnext.gl, ok_next Dnext.F T, Dnext.F.kp, Dnext.F.binds (ps := ["products", "remaining"]) fun _ _ _ _ _ _ us hl => match us, hl with | [_, _], _ => rfl⟩
  have Kplanned : Def P w K mg base "planned_batches" 6 ["products", "capacity"] (spPlanned CP Pt) fplanned gplanned := ⟨Dplanned.gl, ok_planned Dplanned.F T Knext Kfilled KallT, Dplanned.F.kp, Dplanned.F.binds (ps := ["products", "capacity"]) fun _ _ _ _ _ _ us hl => match us, hl with | [_, _], _ => rfl⟩
  have KisList : Def P w K mg base "is_list_of_batches" 1 ["numbers", "products"] (spIsList K) fisList gisList := ⟨DisList.gl, ok_isList DisList.F T, DisList.F.kp, DisList.F.binds (ps := ["numbers", "products"]) fun _ _ _ _ _ _ us hl => match us, hl with | [_, _], _ => rfl⟩
  have KbIn : Def P w K mg base "batches_in" 1 ["numbers", "products"] spBIn fbIn gbIn := ⟨DbIn.gl, ok_bIn DbIn.F T, DbIn.F.kp, DbIn.F.binds (ps := ["numbers", "products"]) fun _ _ _ _ _ _ us hl => match us, hl with | [_, _], _ => rfl⟩
  have Ktog : Def P w K mg base "can_be_baked_together" 2 ["products", "capacity", "temperature", "tins"] (spTog CP) ftog gtog := ⟨Dtog.gl, ok_tog Dtog.F T Kbaked, Dtog.F.kp, Dtog.F.binds (ps := ["products", "capacity", "temperature", "tins"]) fun _ _ _ _ _ _ us hl => match us, hl with | [_, _, _, _], _ => rfl⟩
  have Khold : Def P w K mg base "hold_all_tins" 1 ["batches", "products"] (spHold CP) fhold ghold := ⟨Dhold.gl, ok_hold Dhold.F T, Dhold.F.kp, Dhold.F.binds (ps := ["batches", "products"]) fun _ _ _ _ _ _ us hl => match us, hl with | [_, _], _ => rfl⟩
  have KisSol : Def P w K mg base "is_solution" 3 ["batches", "products", "capacity"] (spIsSol CP) fisSol gisSol := ⟨DisSol.gl, ok_isSol DisSol.F T Ktog Khold, DisSol.F.kp, DisSol.F.binds (ps := ["batches", "products", "capacity"]) fun _ _ _ _ _ _ us hl => match us, hl with | [_, _, _], _ => rfl⟩
  have Khas : Def P w K mg base "has_product" 1 ["oven", "i"] (spHas CP CO) fhas ghas := ⟨Dhas.gl, ok_has Dhas.F T, Dhas.F.kp, Dhas.F.binds (ps := ["oven", "i"]) fun _ _ _ _ _ _ us hl => match us, hl with | [_, _], _ => rfl⟩
  have KbOf : Def P w K mg base "batches_of" 7 ["oven"] (spBatchesOf CP CO Pt) fbOf gbOf := ⟨DbOf.gl, ok_batchesOf DbOf.F T Kplanned, DbOf.F.kp, DbOf.F.binds (ps := ["oven"]) fun _ _ _ _ _ _ us hl => match us, hl with | [_], _ => rfl⟩
  have Kptemps : Def P w K mg base "planned_temperatures" 8 ["oven"] (spPTemps CP CO Pt) fptemps gptemps := ⟨Dptemps.gl, ok_ptemps Dptemps.F T KbOf, Dptemps.F.kp, Dptemps.F.binds (ps := ["oven"]) fun _ _ _ _ _ _ us hl => match us, hl with | [_], _ => rfl⟩
  have Kwith : Def P w K mg base "with_tins" 3 ["products", "i", "tins"] (spWith CP) fwith gwith := ⟨Dwith.gl, ok_with Dwith.F T MP GP bP, Dwith.F.kp, Dwith.F.binds (ps := ["products", "i", "tins"]) fun _ _ _ _ _ _ us hl => match us, hl with | [_, _, _], _ => rfl⟩
  have Gbest : FnOk P w K mg base CX0 9 fbest gbest ["oven", "numbers"] (spBest K CP CO Pt) := ok_best Dbest.F T KisTemp Kleast Kptemps Ktotal
  have Kbest : Def P w K mg base "best_order" 9 ["oven", "numbers"] (spBest K CP CO Pt) fbest gbest := ⟨Dbest.gl, Gbest, Dbest.F.kp, Dbest.F.binds (ps := ["oven", "numbers"]) fun _ _ _ _ _ _ us hl => match us, hl with | [_, _], _ => rfl⟩
  have O : Ops P w K mg base CP CO Pt d := {
    o1 := ⟨fadd, gadd, tadd, ok_add Dadd.F T KisRange KisTins MP GP bP, Dadd.F.kp, Dadd.F.binds (ps := ["oven", "numbers"]) fun _ _ _ _ _ _ us hl => match us, hl with | [_, _], _ => rfl⟩
    o2 := ⟨fsett, gsett, tsett, ok_setTins Dsett.F T Khas KisTins Kwith, Dsett.F.kp, Dsett.F.binds (ps := ["oven", "numbers"]) fun _ _ _ _ _ _ us hl => match us, hl with | [_, _], _ => rfl⟩
    o3 := ⟨fsetm, gsetm, tsetm, ok_setTemp Dsetm.F T Khas KisRange MP GP bP, Dsetm.F.kp, Dsetm.F.binds (ps := ["oven", "numbers"]) fun _ _ _ _ _ _ us hl => match us, hl with | [_, _], _ => rfl⟩
    o4 := ⟨frem, grem, trem, ok_remove Drem.F T Khas, Drem.F.kp, Drem.F.binds (ps := ["oven", "numbers"]) fun _ _ _ _ _ _ us hl => match us, hl with | [_, _], _ => rfl⟩
    o5 := ⟨fsetc, gsetc, tsetc, ok_setCap Dsetc.F T KisCap, Dsetc.F.kp, Dsetc.F.binds (ps := ["oven", "numbers"]) fun _ _ _ _ _ _ us hl => match us, hl with | [_, _], _ => rfl⟩
    o6 := ⟨fminb, gminb, tminb, ok_minB Dminb.F T KbOf, Dminb.F.kp, Dminb.F.binds (ps := ["oven", "numbers"]) fun _ _ _ _ _ _ us hl => match us, hl with | [_, _], _ => rfl⟩
    o7 := ⟨fbat, gbat, tbat, ok_batch Dbat.F T KbOf, Dbat.F.kp, Dbat.F.binds (ps := ["oven", "numbers"]) fun _ _ _ _ _ _ us hl => match us, hl with | [_, _], _ => rfl⟩
    o8 := ⟨ftemps, gtemps, ttemps, ok_temps Dtemps.F T Kptemps, Dtemps.F.kp, Dtemps.F.binds (ps := ["oven", "numbers"]) fun _ _ _ _ _ _ us hl => match us, hl with | [_, _], _ => rfl⟩
    o9 := ⟨fbest, gbest, tbest, best_op Gbest, Dbest.F.kp, Dbest.F.binds (ps := ["oven", "numbers"]) fun _ _ _ _ _ _ us hl => match us, hl with | [_, _], _ => rfl⟩
    o10 := ⟨fminc, gminc, tminc, ok_minC Dminc.F T Kbest, Dminc.F.kp, Dminc.F.binds (ps := ["oven", "numbers"]) fun _ _ _ _ _ _ us hl => match us, hl with | [_, _], _ => rfl⟩
    o11 := ⟨fcompat, gcompat, tcompat, ok_compat Dcompat.F T Khas Kshared, Dcompat.F.kp, Dcompat.F.binds (ps := ["oven", "numbers"]) fun _ _ _ _ _ _ us hl => match us, hl with | [_, _], _ => rfl⟩
    o12 := ⟨ffillb, gfillb, tfillb, ok_fillB Dfillb.F T KisTemp KallT Kfilled, Dfillb.F.kp, Dfillb.F.binds (ps := ["oven", "numbers"]) fun _ _ _ _ _ _ us hl => match us, hl with | [_, _], _ => rfl⟩
    o13 := ⟨fiftins, giftins, tiftins, ok_ifTins Diftins.F T Khas KisTins Kwith Kplanned, Diftins.F.kp, Diftins.F.binds (ps := ["oven", "numbers"]) fun _ _ _ _ _ _ us hl => match us, hl with | [_, _], _ => rfl⟩
    o14 := ⟨fifcap, gifcap, tifcap, ok_ifCap Difcap.F T KisCap Kplanned, Difcap.F.kp, Difcap.F.binds (ps := ["oven", "numbers"]) fun _ _ _ _ _ _ us hl => match us, hl with | [_, _], _ => rfl⟩
    o15 := ⟨fcheck, gcheck, tcheck, ok_check Dcheck.F T KisList KbIn KisSol, Dcheck.F.kp, Dcheck.F.binds (ps := ["oven", "numbers"]) fun _ _ _ _ _ _ us hl => match us, hl with | [_, _], _ => rfl⟩
    o16 := ⟨fdescr, gdescr, tdescr, ok_descr Ddescr.F T, Ddescr.F.kp, Ddescr.F.binds (ps := ["oven", "numbers"]) fun _ _ _ _ _ _ us hl => match us, hl with | [_, _], _ => rfl⟩
  }
  have Koper : Def P w K mg base "operate" 11 ["oven", "number", "numbers"] (spOperate K CP CO Pt RT) foper goper := ⟨Doper.gl, ok_operate Doper.F gD O.tab, Doper.F.kp, Doper.F.binds (ps := ["oven", "number", "numbers"]) fun _ _ _ _ _ _ us hl => match us, hl with | [_, _, _], _ => rfl⟩
  have Kend : Def P w K mg base "end_of_call" 1 ["calls", "at"] (spEnd K) fend gend := ⟨Dend.gl, ok_end Dend.F T gT hT, Dend.F.kp, Dend.F.binds (ps := ["calls", "at"]) fun _ _ _ _ _ _ us hl => match us, hl with | [_, _], _ => rfl⟩
  have GC : FnOk P w K mg base CX0 3 fRC gRC ["self", "capacity"] (spCreate CP CO CR Pt) := ok_create mRC.F T KisCap MO GO bO
  have GA : FnOk P w K mg base CX0 12 fRA gRA ["self", "number", "numbers"] (spAnswer K CP CO CR Pt RT) := ok_answer mRA.F T ⟨mRC.at_, mRC.fn, mRC.F.kp⟩ GC bC Koper
  have GZ : FnOk P w K mg base CX0 13 fa gans ["calls"] (spAns K Pt) := ok_answers Dans.F T Kend MR GR bR ⟨mRA.at_, mRA.fn, mRA.F.kp⟩ GA bA
  exact GZ.imp sp_top
end Ov
open PySem PySem.W PyProof.Rows
set_option maxRecDepth 100000 in
set_option maxHeartbeats 16000000 in
theorem PySem.Challenge.cw_ovenbatches_s01_answers_holds : PySem.Challenge.rw_ovenbatches_s01_answers.Holds := by
  w_on; k_headS; (case hw => exact ⟨[.list [.int 6]], by decide +kernel, by decide +kernel⟩)
  k_fillS
  refine OvE.walk_specTs (row := PySem.Challenge.rw_ovenbatches_s01_answers) (lev := 13) (xs0 := ["calls"]) (sp := Ov.spTop) (by decide +kernel) rfl rfl ⟨rfl, by decide, by decide⟩ (fun w h Y => PySem.W.kIn_of Y) ?F ?S
  case F =>
    intro w mg fa h G KX hmg HT
    have r20 : ∃ e, (recsOf (PySem.Challenge.cw_ovenbatches_s01_answers_holds.view_1)).find? (fun e => e.name == Str.ofString "filling_order") = some e := ⟨_, rfl⟩
    obtain ⟨e20, r20⟩ := r20
    refine' Ov.use_lam KX G (fun c P z => HT e20 _ c P r20 z) ?u1_a ?u1_l ?u1_c ?u1_k ?u1_lc ?u1_hv ?u1_no ?u1_q
    (case u1_a => k_is); (case u1_l => k_is); (case u1_c => k_is); (case u1_k => k_is); (case u1_lc => k_is); (case u1_hv => rfl); (case u1_no => kernel_rfl)
    intro fOrder cOrder Pt fdOrder LO
    refine' Ov.use_dict "OPERATIONS" KX G ?u2_a ?u2_l ?u2_e ?u2_q
    (case u2_a => k_is); (case u2_l => k_is); (case u2_e => rfl)
    intro gD DO
    refine' Ov.use_op "add_product" Ov.sAdd 1 KX G DO ?u3_a ?u3_l ?u3_c ?u3_k ?u3_e ?u3_q
    (case u3_a => k_is); (case u3_l => k_is); (case u3_c => k_is); (case u3_k => k_is); (case u3_e => rfl)
    intro fadd gadd Dadd tadd
    refine' Ov.use_op "set_tins" Ov.sSetTins 2 KX G DO ?u4_a ?u4_l ?u4_c ?u4_k ?u4_e ?u4_q
    (case u4_a => k_is); (case u4_l => k_is); (case u4_c => k_is); (case u4_k => k_is); (case u4_e => rfl)
    intro fsett gsett Dsett tsett
    refine' Ov.use_op "set_temperatures" Ov.sSetTemp 3 KX G DO ?u5_a ?u5_l ?u5_c ?u5_k ?u5_e ?u5_q
    (case u5_a => k_is); (case u5_l => k_is); (case u5_c => k_is); (case u5_k => k_is); (case u5_e => rfl)
    intro fsetm gsetm Dsetm tsetm
    refine' Ov.use_op "remove_product" Ov.sRemove 4 KX G DO ?u6_a ?u6_l ?u6_c ?u6_k ?u6_e ?u6_q
    (case u6_a => k_is); (case u6_l => k_is); (case u6_c => k_is); (case u6_k => k_is); (case u6_e => rfl)
    intro frem grem Drem trem
    refine' Ov.use_op "set_capacity" Ov.sSetCap 5 KX G DO ?u7_a ?u7_l ?u7_c ?u7_k ?u7_e ?u7_q
    (case u7_a => k_is); (case u7_l => k_is); (case u7_c => k_is); (case u7_k => k_is); (case u7_e => rfl)
    intro fsetc gsetc Dsetc tsetc
    refine' Ov.use_op "min_batches" Ov.sMinB 6 KX G DO ?u8_a ?u8_l ?u8_c ?u8_k ?u8_e ?u8_q
    (case u8_a => k_is); (case u8_l => k_is); (case u8_c => k_is); (case u8_k => k_is); (case u8_e => rfl)
    intro fminb gminb Dminb tminb
    refine' Ov.use_op "batch" Ov.sBatch 7 KX G DO ?u9_a ?u9_l ?u9_c ?u9_k ?u9_e ?u9_q
    (case u9_a => k_is); (case u9_l => k_is); (case u9_c => k_is); (case u9_k => k_is); (case u9_e => rfl)
    intro fbat gbat Dbat tbat
    refine' Ov.use_op "temperatures" Ov.sTemps 8 KX G DO ?u10_a ?u10_l ?u10_c ?u10_k ?u10_e ?u10_q
    (case u10_a => k_is); (case u10_l => k_is); (case u10_c => k_is); (case u10_k => k_is); (case u10_e => rfl)
    intro ftemps gtemps Dtemps ttemps
    refine' Ov.use_op "best_order" Ov.sBest 9 KX G DO ?u11_a ?u11_l ?u11_c ?u11_k ?u11_e ?u11_q
    (case u11_a => k_is); (case u11_l => k_is); (case u11_c => k_is); (case u11_k => k_is); (case u11_e => rfl)
    intro fbest gbest Dbest tbest
    refine' Ov.use_op "min_change" Ov.sMinC 10 KX G DO ?u12_a ?u12_l ?u12_c ?u12_k ?u12_e ?u12_q
    (case u12_a => k_is); (case u12_l => k_is); (case u12_c => k_is); (case u12_k => k_is); (case u12_e => rfl)
    intro fminc gminc Dminc tminc
    refine' Ov.use_op "are_compatible" Ov.sCompat 11 KX G DO ?u13_a ?u13_l ?u13_c ?u13_k ?u13_e ?u13_q
    (case u13_a => k_is); (case u13_l => k_is); (case u13_c => k_is); (case u13_k => k_is); (case u13_e => rfl)
    intro fcompat gcompat Dcompat tcompat
    refine' Ov.use_op "fill_batch" Ov.sFillB 12 KX G DO ?u14_a ?u14_l ?u14_c ?u14_k ?u14_e ?u14_q
    (case u14_a => k_is); (case u14_l => k_is); (case u14_c => k_is); (case u14_k => k_is); (case u14_e => rfl)
    intro ffillb gfillb Dfillb tfillb
    refine' Ov.use_op "min_batches_if_tins" Ov.sIfTins 13 KX G DO ?u15_a ?u15_l ?u15_c ?u15_k ?u15_e ?u15_q
    (case u15_a => k_is); (case u15_l => k_is); (case u15_c => k_is); (case u15_k => k_is); (case u15_e => rfl)
    intro fiftins giftins Diftins tiftins
    refine' Ov.use_op "min_batches_if_capacity" Ov.sIfCap 14 KX G DO ?u16_a ?u16_l ?u16_c ?u16_k ?u16_e ?u16_q
    (case u16_a => k_is); (case u16_l => k_is); (case u16_c => k_is); (case u16_k => k_is); (case u16_e => rfl)
    intro fifcap gifcap Difcap tifcap
    refine' Ov.use_op "check_batches" Ov.sCheck 15 KX G DO ?u17_a ?u17_l ?u17_c ?u17_k ?u17_e ?u17_q
    (case u17_a => k_is); (case u17_l => k_is); (case u17_c => k_is); (case u17_k => k_is); (case u17_e => rfl)
    intro fcheck gcheck Dcheck tcheck
    refine' Ov.use_op "describe" Ov.sDescr 16 KX G DO ?u18_a ?u18_l ?u18_c ?u18_k ?u18_e ?u18_q
    (case u18_a => k_is); (case u18_l => k_is); (case u18_c => k_is); (case u18_k => k_is); (case u18_e => rfl)
    intro fdescr gdescr Ddescr tdescr
    refine' Ov.use_def "is_capacity" Ov.sIsCap KX G ?u19_a ?u19_l ?u19_c ?u19_k ?u19_q
    (case u19_a => k_is); (case u19_l => k_is); (case u19_c => k_is); (case u19_k => k_is)
    intro fisCap gisCap DisCap
    refine' Ov.use_def "is_temperature" Ov.sIsTemp KX G ?u20_a ?u20_l ?u20_c ?u20_k ?u20_q
    (case u20_a => k_is); (case u20_l => k_is); (case u20_c => k_is); (case u20_k => k_is)
    intro fisTemp gisTemp DisTemp
    refine' Ov.use_def "is_temperature_range" Ov.sIsRange KX G ?u21_a ?u21_l ?u21_c ?u21_k ?u21_q
    (case u21_a => k_is); (case u21_l => k_is); (case u21_c => k_is); (case u21_k => k_is)
    intro fisRange gisRange DisRange
    refine' Ov.use_def "is_number_of_tins" Ov.sIsTins KX G ?u22_a ?u22_l ?u22_c ?u22_k ?u22_q
    (case u22_a => k_is); (case u22_l => k_is); (case u22_c => k_is); (case u22_k => k_is)
    intro fisTins gisTins DisTins
    refine' Ov.use_def "total_change" Ov.sTotal KX G ?u23_a ?u23_l ?u23_c ?u23_k ?u23_q
    (case u23_a => k_is); (case u23_l => k_is); (case u23_c => k_is); (case u23_k => k_is)
    intro ftotal gtotal Dtotal
    refine' Ov.use_def "order_of_least_change" Ov.sLeast KX G ?u24_a ?u24_l ?u24_c ?u24_k ?u24_q
    (case u24_a => k_is); (case u24_l => k_is); (case u24_c => k_is); (case u24_k => k_is)
    intro fleast gleast Dleast
    refine' Ov.use_def "can_be_baked" Ov.sBaked KX G ?u25_a ?u25_l ?u25_c ?u25_k ?u25_q
    (case u25_a => k_is); (case u25_l => k_is); (case u25_c => k_is); (case u25_k => k_is)
    intro fbaked gbaked Dbaked
    refine' Ov.use_def "have_a_shared_temperature" Ov.sShared KX G ?u26_a ?u26_l ?u26_c ?u26_k ?u26_q
    (case u26_a => k_is); (case u26_l => k_is); (case u26_c => k_is); (case u26_k => k_is)
    intro fshared gshared Dshared
    refine' Ov.use_def "all_tins" Ov.sAllT KX G ?u27_a ?u27_l ?u27_c ?u27_k ?u27_q
    (case u27_a => k_is); (case u27_l => k_is); (case u27_c => k_is); (case u27_k => k_is)
    intro fallT gallT DallT
    refine' Ov.use_def "filled_batch" Ov.sFilled KX G ?u28_a ?u28_l ?u28_c ?u28_k ?u28_q
    (case u28_a => k_is); (case u28_l => k_is); (case u28_c => k_is); (case u28_k => k_is)
    intro ffilled gfilled Dfilled
    refine' Ov.use_def "next_temperature" Ov.sNext KX G ?u29_a ?u29_l ?u29_c ?u29_k ?u29_q
    (case u29_a => k_is); (case u29_l => k_is); (case u29_c => k_is); (case u29_k => k_is)
    intro fnext gnext Dnext
    refine' Ov.use_def "planned_batches" Ov.sPlanned KX G ?u30_a ?u30_l ?u30_c ?u30_k ?u30_q
    (case u30_a => k_is); (case u30_l => k_is); (case u30_c => k_is); (case u30_k => k_is)
    intro fplanned gplanned Dplanned
    refine' Ov.use_def "is_list_of_batches" Ov.sIsList KX G ?u31_a ?u31_l ?u31_c ?u31_k ?u31_q
    (case u31_a => k_is); (case u31_l => k_is); (case u31_c => k_is); (case u31_k => k_is)
    intro fisList gisList DisList
    refine' Ov.use_def "batches_in" Ov.sBatchesIn KX G ?u32_a ?u32_l ?u32_c ?u32_k ?u32_q
    (case u32_a => k_is); (case u32_l => k_is); (case u32_c => k_is); (case u32_k => k_is)
    intro fbIn gbIn DbIn
    refine' Ov.use_def "can_be_baked_together" Ov.sTogether KX G ?u33_a ?u33_l ?u33_c ?u33_k ?u33_q
    (case u33_a => k_is); (case u33_l => k_is); (case u33_c => k_is); (case u33_k => k_is)
    intro ftog gtog Dtog
    refine' Ov.use_def "hold_all_tins" Ov.sHold KX G ?u34_a ?u34_l ?u34_c ?u34_k ?u34_q
    (case u34_a => k_is); (case u34_l => k_is); (case u34_c => k_is); (case u34_k => k_is)
    intro fhold ghold Dhold
    refine' Ov.use_def "is_solution" Ov.sIsSol KX G ?u35_a ?u35_l ?u35_c ?u35_k ?u35_q
    (case u35_a => k_is); (case u35_l => k_is); (case u35_c => k_is); (case u35_k => k_is)
    intro fisSol gisSol DisSol
    refine' Ov.use_def "has_product" Ov.sHas KX G ?u36_a ?u36_l ?u36_c ?u36_k ?u36_q
    (case u36_a => k_is); (case u36_l => k_is); (case u36_c => k_is); (case u36_k => k_is)
    intro fhas ghas Dhas
    refine' Ov.use_def "batches_of" Ov.sBatchesOf KX G ?u37_a ?u37_l ?u37_c ?u37_k ?u37_q
    (case u37_a => k_is); (case u37_l => k_is); (case u37_c => k_is); (case u37_k => k_is)
    intro fbOf gbOf DbOf
    refine' Ov.use_def "planned_temperatures" Ov.sPTemps KX G ?u38_a ?u38_l ?u38_c ?u38_k ?u38_q
    (case u38_a => k_is); (case u38_l => k_is); (case u38_c => k_is); (case u38_k => k_is)
    intro fptemps gptemps Dptemps
    refine' Ov.use_def "with_tins" Ov.sWith KX G ?u39_a ?u39_l ?u39_c ?u39_k ?u39_q
    (case u39_a => k_is); (case u39_l => k_is); (case u39_c => k_is); (case u39_k => k_is)
    intro fwith gwith Dwith
    refine' Ov.use_def "operate" Ov.sOperate KX G ?u40_a ?u40_l ?u40_c ?u40_k ?u40_q
    (case u40_a => k_is); (case u40_l => k_is); (case u40_c => k_is); (case u40_k => k_is)
    intro foper goper Doper
    refine' Ov.use_def "end_of_call" Ov.sEnd KX G ?u41_a ?u41_l ?u41_c ?u41_k ?u41_q
    (case u41_a => k_is); (case u41_l => k_is); (case u41_c => k_is); (case u41_k => k_is)
    intro fend gend Dend
    refine' Ov.use_def "answers" Ov.sAns KX G ?u42_a ?u42_l ?u42_c ?u42_k ?u42_q
    (case u42_a => k_is); (case u42_l => k_is); (case u42_c => k_is); (case u42_k => k_is)
    intro fans gans Dans
    refine' Ov.use_tup "PARAMETER_COUNTS" Ov.countsL KX G ?u43_a ?u43_l ?u43_e ?u43_z ?u43_q
    (case u43_a => k_is); (case u43_l => k_is); (case u43_e => rfl); (case u43_z => decide)
    intro tu gT hT
    refine' Ov.use_cls "Product" KX G ?u44_a ?u44_pg ?u44_hd ?u44_po ?u44_sa ?u44_mk ?u44_kc ?u44_q
    (case u44_a => k_is); (case u44_pg => k_is); (case u44_hd => k_is); (case u44_po => k_is); (case u44_sa => k_is); (case u44_mk => k_is); (case u44_kc => k_is)
    intro EP
    refine' Ov.use_no "min_temperature" EP ?u45_a ?u45_q
    (case u45_a => k_is)
    intro nP0
    refine' Ov.use_no "max_temperature" EP ?u46_a ?u46_q
    (case u46_a => k_is)
    intro nP1
    refine' Ov.use_no "tins" EP ?u47_a ?u47_q
    (case u47_a => k_is)
    intro nP2
    refine' Ov.use_cls "Oven" KX G ?u48_a ?u48_pg ?u48_hd ?u48_po ?u48_sa ?u48_mk ?u48_kc ?u48_q
    (case u48_a => k_is); (case u48_pg => k_is); (case u48_hd => k_is); (case u48_po => k_is); (case u48_sa => k_is); (case u48_mk => k_is); (case u48_kc => k_is)
    intro EO
    refine' Ov.use_no "capacity" EO ?u49_a ?u49_q
    (case u49_a => k_is)
    intro nO0
    refine' Ov.use_no "products" EO ?u50_a ?u50_q
    (case u50_a => k_is)
    intro nO1
    refine' Ov.use_cls "Request" KX G ?u51_a ?u51_pg ?u51_hd ?u51_po ?u51_sa ?u51_mk ?u51_kc ?u51_q
    (case u51_a => k_is); (case u51_pg => k_is); (case u51_hd => k_is); (case u51_po => k_is); (case u51_sa => k_is); (case u51_mk => k_is); (case u51_kc => k_is)
    intro ER
    refine' Ov.use_no "instance" ER ?u52_a ?u52_q
    (case u52_a => k_is)
    intro nR0
    refine' Ov.use_meth "__init__" "Product.__init__" Ov.sPInit EP ?u53_a ?u53_i ?u53_l ?u53_c ?u53_k ?u53_q
    (case u53_a => k_is); (case u53_i => k_is); (case u53_l => k_is); (case u53_c => k_is); (case u53_k => k_is)
    intro fPI gPI mPI
    refine' Ov.use_meth "__init__" "Oven.__init__" Ov.sOInit EO ?u54_a ?u54_i ?u54_l ?u54_c ?u54_k ?u54_q
    (case u54_a => k_is); (case u54_i => k_is); (case u54_l => k_is); (case u54_c => k_is); (case u54_k => k_is)
    intro fOI gOI mOI
    refine' Ov.use_meth "__init__" "Request.__init__" Ov.sRInit ER ?u55_a ?u55_i ?u55_l ?u55_c ?u55_k ?u55_q
    (case u55_a => k_is); (case u55_i => k_is); (case u55_l => k_is); (case u55_c => k_is); (case u55_k => k_is)
    intro fRI gRI mRI
    refine' Ov.use_meth "create" "Request.create" Ov.sRCreate ER ?u56_a ?u56_i ?u56_l ?u56_c ?u56_k ?u56_q
    (case u56_a => k_is); (case u56_i => k_is); (case u56_l => k_is); (case u56_c => k_is); (case u56_k => k_is)
    intro fRC gRC mRC
    refine' Ov.use_meth "answer" "Request.answer" Ov.sRAnswer ER ?u57_a ?u57_i ?u57_l ?u57_c ?u57_k ?u57_q
    (case u57_a => k_is); (case u57_i => k_is); (case u57_l => k_is); (case u57_c => k_is); (case u57_k => k_is)
    intro fRA gRA mRA
    refine' Ov.use_int "NO_INSTANCE" (-11) KX G ?u58_a ?u58_q
    (case u58_a => k_is)
    intro cNo
    refine' Ov.use_int "MISSING" (-2) KX G ?u59_a ?u59_q
    (case u59_a => k_is)
    intro cMi
    refine' Ov.use_int "OUT_OF_RANGE" (-22) KX G ?u60_a ?u60_q
    (case u60_a => k_is)
    intro cOu
    refine' Ov.use_int "TOO_MANY_PRODUCTS" (-28) KX G ?u61_a ?u61_q
    (case u61_a => k_is)
    intro cTo
    refine' Ov.use_int "LOWEST_CAPACITY" (1) KX G ?u62_a ?u62_q
    (case u62_a => k_is)
    intro cLC
    refine' Ov.use_int "HIGHEST_CAPACITY" (20) KX G ?u63_a ?u63_q
    (case u63_a => k_is)
    intro cHC
    refine' Ov.use_int "LOWEST_TEMPERATURE" (0) KX G ?u64_a ?u64_q
    (case u64_a => k_is)
    intro cLT
    refine' Ov.use_int "HIGHEST_TEMPERATURE" (400) KX G ?u65_a ?u65_q
    (case u65_a => k_is)
    intro cHT
    refine' Ov.use_int "FEWEST_TINS" (0) KX G ?u66_a ?u66_q
    (case u66_a => k_is)
    intro cFT
    refine' Ov.use_int "MOST_TINS" (9) KX G ?u67_a ?u67_q
    (case u67_a => k_is)
    intro cMT
    refine' Ov.use_int "MOST_PRODUCTS" (6) KX G ?u68_a ?u68_q
    (case u68_a => k_is)
    intro cMP
    refine' Ov.use_int "CREATE" (0) KX G ?u69_a ?u69_q
    (case u69_a => k_is)
    intro cCr
    refine' Ov.use_int "CHECK_BATCHES" (15) KX G ?u70_a ?u70_q
    (case u70_a => k_is)
    intro cCB
    refine' Ov.use_none "len" KX G ?u71_a ?u71_q
    (case u71_a => k_is)
    intro z_len
    refine' Ov.use_none "range" KX G ?u72_a ?u72_q
    (case u72_a => k_is)
    intro z_range
    refine' Ov.use_none "sorted" KX G ?u73_a ?u73_q
    (case u73_a => k_is)
    intro z_sorted
    refine' Ov.use_none "min" KX G ?u74_a ?u74_q
    (case u74_a => k_is)
    intro z_min
    refine' Ov.use_none "sum" KX G ?u75_a ?u75_q
    (case u75_a => k_is)
    intro z_sum
    refine' Ov.use_none "abs" KX G ?u76_a ?u76_q
    (case u76_a => k_is)
    intro z_abs
    refine' Ov.use_none "list" KX G ?u77_a ?u77_q
    (case u77_a => k_is)
    intro z_list
    exact Ov.fin ⟨EP.cl, EO.cl, ER.cl, nP0, nP1, nP2, nO0, nO1, nR0, EP.gl, EO.gl, ER.gl, cNo, cMi, cOu, cTo, cLC, cHC, cLT, cHT, cFT, cMT, cMP, cCr, cCB, z_len, z_range, z_sorted, z_min, z_sum, z_abs, z_list⟩ hmg LO gD gT hT EP EO ER mPI mOI mRI mRC mRA
      DisCap DisTemp DisRange DisTins Dtotal Dleast Dbaked Dshared DallT Dfilled Dnext Dplanned DisList DbIn Dtog Dhold DisSol Dhas DbOf Dptemps Dwith Dadd Dsett Dsetm Drem Dsetc Dminb Dbat Dtemps Dbest Dminc Dcompat Dfillb Diftins Difcap Dcheck Ddescr Doper Dend Dans tadd tsett tsetm trem tsetc tminb tbat ttemps tbest tminc tcompat tfillb tiftins tifcap tcheck tdescr
  case S =>
    intro K cs H xs a hO hwi hask hx
    cases hx with
    | cons h1 h2 =>
      cases h2
      cases h1 with
      | lst hs ha =>
        have e := L2.ints_dw a.1 _ ha
        subst e
        exact ⟨_, a.1, rfl, hs, hask, hO, fun H' p hp => .lst (L2.SqL.of hp) (L2.dw_ints _)⟩
