import PyProof.Rows.All
import Wide.All
import OpenK.AllK
import Wide.FinOn
import Open.SpecLaws
import KE.OsGo
import KE.DataMinMax
import KE.SortKeyHeap
import HandS.ForSpec
import HandS.ForMost
import HandS.SortKw
import HandS.Conv
import HandS.Nested
import HandS.Walk
import PySem.Challenge.RW_caskorders_s01_answers
set_option Elab.async false
set_option linter.all false
set_option maxRecDepth 100000
set_option maxHeartbeats 4000000

/-! ## Cm -/
namespace CM
open Sj07

def szs (c : Cellar) : List Int := c.map fun k => (k.size : Int)
def stk (c : Cellar) : List Int := c.map fun k => (k.stock : Int)
structure WF (c : Cellar) : Prop where
  len : c.length ≤ 4
  ok : ∀ k ∈ c, 1 ≤ k.size ∧ k.size ≤ 60 ∧ k.stock ≤ 6
theorem wf_nil : WF [] := ⟨by decide, fun k h => absurd h (by simp)⟩
theorem WF.tail {k : Kind} {c : Cellar} (h : WF (k :: c)) : WF c := ⟨by have := h.len; simp at this; omega, fun x hx => h.ok x (List.mem_cons_of_mem _ hx)⟩
theorem szs_len (c : Cellar) : (szs c).length = c.length := by simp [szs]
theorem stk_len (c : Cellar) : (stk c).length = c.length := by simp [stk]
theorem ints_len (l : List Nat) : (Sj07.ints l).length = l.length := by simp [Sj07.ints]
theorem ints_sum : ∀ l : List Nat, (Sj07.ints l).sum = ((l.sum : Nat) : Int)
  | [] => rfl
  | n :: l => by
    have ih := ints_sum l
    simp only [Sj07.ints, List.map_cons, List.sum_cons] at ih ⊢
    rw [ih]
    simp

/-! held -/
def heldI (l s : List Int) : Int := ((l.zip s).map fun p => p.1 * p.2).sum
theorem held_eq : ∀ (c : Cellar) (l : List Nat), heldI (Sj07.ints l) (szs c) = (holds c l : Int)
  | [], l => by simp [heldI, szs, holds]
  | k :: c, [] => by simp [heldI, Sj07.ints, holds]
  | k :: c, n :: l => by
    have ih := held_eq c l
    simp only [heldI, szs, Sj07.ints, holds, List.map_cons, List.zip_cons_cons, List.sum_cons] at ih ⊢
    rw [ih, Int.mul_comm]
    simp

/-! plans -/
def ext (ps : List (List Nat)) (m : Nat) : List (List Nat) := ps.flatMap fun p => (List.range (m + 1)).map fun t => p ++ [t]
theorem ext_all : ∀ (c : Cellar) (ps : List (List Nat)), (c.map (·.stock)).foldl ext ps = ps.flatMap fun p => (plans c).map fun q => p ++ q
  | [], ps => by
    simp [plans]
  | k :: c, ps => by
    rw [List.map_cons, List.foldl_cons, ext_all c]
    simp only [ext, plans, List.flatMap_assoc, List.map_flatMap, List.map_map, List.flatMap_map]
    simp [Function.comp_def]
def plansN (st : List Nat) : List (List Nat) := st.foldl ext [[]]
theorem plansN_eq (c : Cellar) : plansN (c.map (·.stock)) = plans c := by
  unfold plansN
  rw [ext_all]
  simp
theorem ext_len (ps : List (List Nat)) (m : Nat) : (ext ps m).length = ps.length * (m + 1) := by
  unfold ext
  rw [List.length_flatMap]
  simp only [List.length_map, List.length_range]
  induction ps with
  | nil => simp
  | cons p ps ih =>
    simp only [List.map_cons, List.sum_cons, List.length_cons, ih]
    rw [Nat.add_mul]
    omega
theorem plansN_snoc (st : List Nat) (m : Nat) : plansN (st ++ [m]) = ext (plansN st) m := by
  unfold plansN
  rw [List.foldl_append]
  rfl
theorem pow7_mono : ∀ {i j : Nat}, i ≤ j → 7 ^ i ≤ 7 ^ j := fun h => Nat.pow_le_pow_right (by decide) h
theorem foldl_ext_len : ∀ (st : List Nat) (ps : List (List Nat)), (∀ m ∈ st, m ≤ 6) → (st.foldl ext ps).length ≤ ps.length * 7 ^ st.length
  | [], ps, _ => by simp
  | m :: st, ps, h => by
    have ih := foldl_ext_len st (ext ps m) fun x hx => h x (List.mem_cons_of_mem _ hx)
    rw [List.foldl_cons]
    refine Nat.le_trans ih ?_
    rw [ext_len, List.length_cons, Nat.pow_succ, Nat.mul_assoc, Nat.mul_comm (7 ^ st.length) 7]
    refine Nat.mul_le_mul_left _ (Nat.mul_le_mul_right _ ?_)
    have := h m (List.mem_cons_self ..)
    omega
theorem plansN_len {st : List Nat} (h : ∀ m ∈ st, m ≤ 6) (hl : st.length ≤ 4) : (plansN st).length ≤ 2401 := by
  have z := foldl_ext_len st [[]] h
  have y := pow7_mono hl
  unfold plansN
  simp at z
  have : 7 ^ 4 = 2401 := by decide
  omega
theorem foldl_ext_mem : ∀ (st : List Nat) (ps : List (List Nat)) (n : Nat), (∀ p ∈ ps, p.length = n) → ∀ r ∈ st.foldl ext ps, r.length = n + st.length
  | [], ps, n, h, r, hr => h r hr
  | m :: st, ps, n, h, r, hr => by
    rw [List.foldl_cons] at hr
    have ih := foldl_ext_mem st (ext ps m) (n + 1) (fun p hp => by
      unfold ext at hp
      obtain ⟨q, hq, hp⟩ := List.mem_flatMap.mp hp
      obtain ⟨k, _, rfl⟩ := List.mem_map.mp hp
      rw [List.length_append, h q hq]
      rfl) r hr
    rw [List.length_cons]
    omega
theorem plansN_mem {st : List Nat} {r : List Nat} (h : r ∈ plansN st) : r.length = st.length := by
  have := foldl_ext_mem st [[]] 0 (fun p hp => by
    rw [List.mem_singleton.mp hp]
    rfl) r h
  omega
theorem plans_len {c : Cellar} (h : WF c) : (plans c).length ≤ 2401 := by
  rw [← plansN_eq]
  refine plansN_len (fun m hm => ?_) (by rw [List.length_map]; exact h.len)
  obtain ⟨k, hk, e⟩ := List.mem_map.mp hm
  rw [← e]
  exact (h.ok k hk).2.2
theorem plans_pos : ∀ c : Cellar, ∃ l, l ∈ plans c
  | [] => ⟨[], by simp [plans]⟩
  | k :: c => by
    obtain ⟨l, hl⟩ := plans_pos c
    refine ⟨0 :: l, ?_⟩
    simp only [plans, List.mem_flatMap, List.mem_map, List.mem_range]
    exact ⟨0, Nat.succ_pos _, l, hl, rfl⟩
theorem can_plans : ∀ (c : Cellar) (l : List Nat), l ∈ plans c → can c l = true
  | [], l, h => by
    simp [plans] at h
    subst h
    rfl
  | k :: c, l, h => by
    simp only [plans, List.mem_flatMap, List.mem_map, List.mem_range] at h
    obtain ⟨n, hn, q, hq, e⟩ := h
    subst e
    have ih := can_plans c q hq
    simp only [can, ih, Bool.and_true, decide_eq_true_eq]
    omega
theorem can_len : ∀ (c : Cellar) (l : List Nat), can c l = true → l.length = c.length
  | [], [], _ => rfl
  | [], _ :: _, h => by simp [can] at h
  | _ :: _, [], h => by simp [can] at h
  | k :: c, n :: l, h => by
    simp only [can, Bool.and_eq_true] at h
    have ih := can_len c l h.2
    simp [ih]
theorem can_le : ∀ (c : Cellar) (l : List Nat), WF c → can c l = true → ∀ n ∈ l, n ≤ 6
  | [], [], _, _, n, hn => by simp at hn
  | [], _ :: _, _, h, _, _ => by simp [can] at h
  | _ :: _, [], _, h, _, _ => by simp [can] at h
  | k :: c, m :: l, w, h, n, hn => by
    simp only [can, Bool.and_eq_true, decide_eq_true_eq] at h
    rcases List.mem_cons.mp hn with e | e
    · have := (w.ok k (List.mem_cons_self ..)).2.2
      omega
    · exact can_le c l w.tail h.2 n e
def canI (l s : List Int) : Bool := (l.zip s).all fun p => decide (p.1 ≤ p.2)
theorem can_eq : ∀ (c : Cellar) (l : List Nat), l.length = c.length → canI (Sj07.ints l) (stk c) = can c l
  | [], [], _ => rfl
  | [], _ :: _, h => by simp at h
  | _ :: _, [], h => by simp at h
  | k :: c, n :: l, h => by
    have ih := can_eq c l (by simpa using h)
    simp only [canI, Sj07.ints, stk, List.map_cons, List.zip_cons_cons, List.all_cons, can] at ih ⊢
    rw [ih]
    simp
theorem can_ne {c : Cellar} {l : List Nat} (h : l.length ≠ c.length) : can c l = false := by
  cases e : can c l with
  | false => rfl
  | true => exact absurd (can_len c l e) h

/-! the order of plans -/
theorem ints_lt : ∀ (a b : List Nat), Sj07.ints a < Sj07.ints b ↔ a < b
  | [], [] => by simp [Sj07.ints]
  | [], b :: bs => by simp [Sj07.ints]
  | a :: as, [] => by simp [Sj07.ints]
  | a :: as, b :: bs => by
    have ih := ints_lt as bs
    simp only [Sj07.ints, List.map_cons, List.cons_lt_cons_iff] at ih ⊢
    rw [ih]
    simp [Int.ofNat_inj]
theorem lt_not {a b : List Nat} (h : a < b) : ¬ b < a := fun h2 => List.lt_irrefl a (List.lt_trans h h2)
theorem plans_sorted : ∀ c : Cellar, (plans c).Pairwise (· < ·)
  | [] => by simp [plans]
  | k :: c => by
    have ih := plans_sorted c
    unfold plans
    rw [List.pairwise_flatMap]
    refine ⟨fun n _ => ?_, ?_⟩
    · rw [List.pairwise_map]
      exact ih.imp fun {a b} h => by
        rw [List.cons_lt_cons_iff]
        exact .inr ⟨rfl, h⟩
    · refine List.pairwise_lt_range.imp fun {n m} h x hx y hy => ?_
      obtain ⟨p, _, rfl⟩ := List.mem_map.mp hx
      obtain ⟨q, _, rfl⟩ := List.mem_map.mp hy
      rw [List.cons_lt_cons_iff]
      exact .inl h

/-! the best -/
def rowI (f g : List Nat → Nat) (l : List Nat) : List Int := (f l : Int) :: (g l : Int) :: Sj07.ints l
def minI (x : List Int) (xs : List (List Int)) : List Int := xs.foldl (fun a y => if y < a then y else a) x
theorem minI_mem : ∀ (rs : List (List Int)) (r : List Int), minI r rs ∈ r :: rs
  | [], r => List.mem_singleton.mpr rfl
  | x :: rs, r => by
    have ih := minI_mem rs (if x < r then x else r)
    have e : minI r (x :: rs) = minI (if x < r then x else r) rs := rfl
    rw [e]
    rcases List.mem_cons.mp ih with h | h
    · rw [h]
      split
      · exact List.mem_cons_of_mem _ (List.mem_cons_self ..)
      · exact List.mem_cons_self ..
    · exact List.mem_cons_of_mem _ (List.mem_cons_of_mem _ h)
def bestI (rows : List (List Int)) : List Int := match rows with
  | [] => [-6]
  | x :: xs => (minI x xs).take 2 ++ [(((x :: xs).filter fun r => decide (r.take 2 = (minI x xs).take 2)).length : Int)] ++ (minI x xs).drop 2
def toldA (a : Ans) : List Int := a.v :: a.l
theorem row_lt {f g : List Nat → Nat} {a b : List Nat} : rowI f g a < rowI f g b ↔ f a < f b ∨ f a = f b ∧ (g a < g b ∨ g a = g b ∧ a < b) := by
  unfold rowI
  rw [List.cons_lt_cons_iff, List.cons_lt_cons_iff, ints_lt]
  simp [Int.ofNat_inj]
theorem better_iff {a b x y : Nat} : better a b x y = true ↔ a < x ∨ a = x ∧ b < y := by
  simp [better]
def stepB (f g : List Nat → Nat) (r : Option Best) (l : List Nat) : Option Best := match r with
  | none => some ⟨f l, g l, 1, l⟩
  | some x => if better (f l) (g l) x.first x.second = true then some ⟨f l, g l, 1, l⟩ else if f l = x.first ∧ g l = x.second then some { x with many := x.many + 1 } else some x
theorem bestBy_eq (f g : List Nat → Nat) (p : List (List Nat)) : bestBy f g p = p.foldl (stepB f g) none := rfl
def sameFG (f g : List Nat → Nat) (b l : List Nat) : Bool := decide (f l = f b ∧ g l = g b)
theorem best_fold (f g : List Nat → Nat) : ∀ (rest done : List (List Nat)) (b : List Nat) (m : Nat), (∀ l ∈ rest, b < l) → rest.Pairwise (· < ·) → m = (done.filter (sameFG f g b)).length →
    (∀ l ∈ done, better (f l) (g l) (f b) (g b) = false) →
    ∃ b', rest.foldl (stepB f g) (some ⟨f b, g b, m, b⟩) = some ⟨f b', g b', ((done ++ rest).filter (sameFG f g b')).length, b'⟩ ∧
      (rest.map (rowI f g)).foldl (fun a y => if y < a then y else a) (rowI f g b) = rowI f g b'
  | [], done, b, m, _, _, hm, _ => ⟨b, by rw [List.append_nil, ← hm]; rfl, rfl⟩
  | l :: r, done, b, m, hl, hp, hm, hd => by
    have hbl := hl l (List.mem_cons_self ..)
    have hp2 := (List.pairwise_cons.mp hp)
    have hnf : ∀ {x}, better (f x) (g x) (f b) (g b) = false → ¬ (f x < f b ∨ f x = f b ∧ g x < g b) := fun {x} h z => by
      rw [better_iff.mpr z] at h
      cases h
    rw [List.foldl_cons, List.map_cons, List.foldl_cons]
    by_cases hb : better (f l) (g l) (f b) (g b) = true
    · have hb' := better_iff.mp hb
      have e1 : stepB f g (some ⟨f b, g b, m, b⟩) l = some ⟨f l, g l, 1, l⟩ := if_pos hb
      have e2 : (if rowI f g l < rowI f g b then rowI f g l else rowI f g b) = rowI f g l := if_pos (row_lt.mpr (by omega))
      rw [e1, e2]
      obtain ⟨b', h1, h2⟩ := best_fold f g r (done ++ [l]) l 1 hp2.1 hp2.2 (by
        have z : done.filter (sameFG f g l) = [] := by
          rw [List.filter_eq_nil_iff]
          intro x hx hs
          have := hnf (hd x hx)
          simp only [sameFG, decide_eq_true_eq] at hs
          omega
        have z2 : sameFG f g l l = true := decide_eq_true ⟨rfl, rfl⟩
        rw [List.filter_append, z, List.nil_append, List.filter_cons, if_pos z2]
        rfl) (fun x hx => by
        rcases List.mem_append.mp hx with hx | hx
        · have := hnf (hd x hx)
          cases e : better (f x) (g x) (f l) (g l) with
          | false => rfl
          | true =>
            have := better_iff.mp e
            omega
        · rw [List.mem_singleton.mp hx]
          cases e : better (f l) (g l) (f l) (g l) with
          | false => rfl
          | true =>
            have := better_iff.mp e
            omega)
      rw [List.append_assoc] at h1
      exact ⟨b', h1, h2⟩
    · have hb2 : better (f l) (g l) (f b) (g b) = false := by simpa using hb
      have hb' := hnf hb2
      have e2 : (if rowI f g l < rowI f g b then rowI f g l else rowI f g b) = rowI f g b := if_neg (fun z => by
        have := row_lt.mp z
        have n := lt_not hbl
        rcases this with q | ⟨q1, q | ⟨q2, q3⟩⟩
        · omega
        · omega
        · exact n q3)
      rw [e2]
      have hd' : ∀ x ∈ done ++ [l], better (f x) (g x) (f b) (g b) = false := fun x hx => by
        rcases List.mem_append.mp hx with hx | hx
        · exact hd x hx
        · rw [List.mem_singleton.mp hx]
          exact hb2
      have hl' : ∀ x ∈ r, b < x := fun x hx => hl x (List.mem_cons_of_mem _ hx)
      by_cases hs : f l = f b ∧ g l = g b
      · have e1 : stepB f g (some ⟨f b, g b, m, b⟩) l = some ⟨f b, g b, m + 1, b⟩ := (if_neg hb).trans (if_pos hs)
        rw [e1]
        obtain ⟨b', h1, h2⟩ := best_fold f g r (done ++ [l]) b (m + 1) hl' hp2.2 (by
          have z2 : sameFG f g b l = true := decide_eq_true hs
          rw [List.filter_append, List.length_append, ← hm, List.filter_cons, if_pos z2]
          rfl) hd'
        rw [List.append_assoc] at h1
        exact ⟨b', h1, h2⟩
      · have e1 : stepB f g (some ⟨f b, g b, m, b⟩) l = some ⟨f b, g b, m, b⟩ := (if_neg hb).trans (if_neg hs)
        rw [e1]
        obtain ⟨b', h1, h2⟩ := best_fold f g r (done ++ [l]) b m hl' hp2.2 (by
          have z2 : ¬ sameFG f g b l = true := fun z => hs (of_decide_eq_true z)
          rw [List.filter_append, List.length_append, ← hm, List.filter_cons, if_neg z2]
          rfl) hd'
        rw [List.append_assoc] at h1
        exact ⟨b', h1, h2⟩
theorem best_eq (f g : List Nat → Nat) (p : List (List Nat)) (hp : p.Pairwise (· < ·)) : bestI (p.map (rowI f g)) = toldA (toldBest (bestBy f g p)) := by
  rw [bestBy_eq]
  cases p with
  | nil => rfl
  | cons l r =>
    have hp2 := List.pairwise_cons.mp hp
    obtain ⟨b', h1, h2⟩ := best_fold f g r [l] l 1 hp2.1 hp2.2 (by
      have z2 : sameFG f g l l = true := decide_eq_true ⟨rfl, rfl⟩
      rw [List.filter_cons, if_pos z2]
      rfl) (fun x hx => by
      rw [List.mem_singleton.mp hx]
      cases e : better (f l) (g l) (f l) (g l) with
      | false => rfl
      | true =>
        have := better_iff.mp e
        omega)
    have e0 : stepB f g none l = some ⟨f l, g l, 1, l⟩ := rfl
    rw [List.foldl_cons, e0, h1]
    show (minI (rowI f g l) (r.map (rowI f g))).take 2 ++ [_] ++ (minI (rowI f g l) (r.map (rowI f g))).drop 2 = _
    have em : minI (rowI f g l) (r.map (rowI f g)) = rowI f g b' := h2
    rw [em]
    have ec : ((rowI f g l :: r.map (rowI f g)).filter fun q => decide (q.take 2 = (rowI f g b').take 2)).length = ((l :: r).filter (sameFG f g b')).length := by
      rw [← List.map_cons, List.filter_map, List.length_map]
      congr 1
      refine List.filter_congr fun x _ => ?_
      simp [sameFG, rowI, Int.ofNat_inj]
    rw [ec]
    simp [rowI, toldA, toldBest, Sj07.ints]

/-! full, fewest -/
def fillRows (c : Cellar) (v : Nat) : List (List Int) := ((plans c).filter fun l => decide ((0 : Int) ≤ (holds c l : Int) - v)).map fun l => ((holds c l : Int) - v) :: ((l.sum : Nat) : Int) :: Sj07.ints l
theorem fill_rows (c : Cellar) (v : Nat) : fillRows c v = ((plans c).filter (fills c v)).map (rowI (left c v) List.sum) := by
  unfold fillRows
  have e : (plans c).filter (fun l => decide ((0 : Int) ≤ (holds c l : Int) - v)) = (plans c).filter (fills c v) := List.filter_congr fun l hl => by
    unfold fills
    rw [can_plans c l hl, Bool.true_and]
    by_cases h : v ≤ holds c l
    · rw [decide_eq_true h, decide_eq_true (by omega)]
    · rw [decide_eq_false h, decide_eq_false (by omega)]
  rw [e]
  refine List.map_congr_left fun l hl => ?_
  have hf : fills c v l = true := (List.mem_filter.mp hl).2
  simp only [fills, Bool.and_eq_true, decide_eq_true_eq] at hf
  unfold rowI left
  congr 1
  omega
theorem full_eq (c : Cellar) (v : Nat) : bestI (fillRows c v) = toldA (toldBest (Sj07.full c v)) := by
  rw [fill_rows]
  exact best_eq _ _ _ ((plans_sorted c).filter _)
def swapRow (r : List Int) : List Int := [r.getD 1 0, r.getD 0 0] ++ r.drop 2
theorem fewest_eq (c : Cellar) (v : Nat) : bestI ((fillRows c v).map swapRow) = toldA (toldBest (Sj07.fewest c v)) := by
  rw [fill_rows, List.map_map]
  have e : (swapRow ∘ rowI (left c v) List.sum) = rowI List.sum (left c v) := by
    funext l
    rfl
  rw [e]
  exact best_eq _ _ _ ((plans_sorted c).filter _)

/-! never -/
def missed (c : Cellar) (n : Nat) : List Int := ((List.range n).map fun i : Nat => (1 : Int) + (i : Int)).filter fun z => !((plans c).map fun l => (holds c l : Int)).contains z
theorem contains_cast (p : List Nat) (v : Nat) : (p.map fun x : Nat => (x : Int)).contains (v : Int) = p.contains v := by
  induction p with
  | nil => rfl
  | cons a p ih =>
    rw [List.map_cons, List.contains_cons, List.contains_cons, ih]
    congr 1
    by_cases h : v = a
    · subst h
      rw [beq_self_eq_true, beq_self_eq_true]
    · have h2 : (v : Int) ≠ (a : Int) := fun z => h (Int.ofNat.inj z)
      rw [beq_eq_false_iff_ne.mpr h, beq_eq_false_iff_ne.mpr h2]
theorem missed_eq (c : Cellar) (n : Nat) : missed c n = Sj07.ints (never c n) := by
  unfold missed never Sj07.ints
  have e : (List.range n).map (fun i : Nat => (1 : Int) + (i : Int)) = ((List.range n).map fun i => i + 1).map fun x : Nat => (x : Int) := by
    rw [List.map_map]
    refine List.map_congr_left fun i _ => ?_
    show (1 : Int) + (i : Int) = ((i + 1 : Nat) : Int)
    omega
  rw [e, List.filter_map]
  congr 1
  refine List.filter_congr fun v _ => ?_
  have e2 : (plans c).map (fun l => (holds c l : Int)) = ((plans c).map (holds c)).map fun x : Nat => (x : Int) := by rw [List.map_map]; rfl
  show (!((plans c).map fun l => (holds c l : Int)).contains (v : Int)) = _
  rw [e2, contains_cast]
theorem max_last : ∀ (xs : List Int) (x : Int), (x :: xs).Pairwise (· < ·) → xs.foldl max x = (x :: xs).getLastD 0
  | [], x, _ => rfl
  | y :: xs, x, h => by
    have h2 := List.pairwise_cons.mp h
    have hxy := h2.1 y (List.mem_cons_self ..)
    rw [List.foldl_cons]
    have e : max x y = y := by omega
    rw [e, max_last xs y h2.2]
    simp [List.getLastD_eq_getLast?]
theorem never_sorted (c : Cellar) (n : Nat) : (Sj07.ints (never c n)).Pairwise (· < ·) := by
  unfold Sj07.ints never
  rw [List.pairwise_map]
  refine List.Pairwise.filter _ ?_
  rw [List.pairwise_map]
  exact List.pairwise_lt_range.imp fun {a b} h => by omega
theorem last_ints : ∀ (l : List Nat), (Sj07.ints l).getLastD 0 = ((l.getLastD 0 : Nat) : Int)
  | [] => rfl
  | a :: l => by
    simp only [Sj07.ints, List.getLastD_eq_getLast?, List.getLast?_map]
    cases (a :: l).getLast? <;> simp
def maxI (l : List Int) : Int := match l with
  | [] => 0
  | x :: xs => xs.foldl max x
theorem never_max (c : Cellar) (n : Nat) : maxI (missed c n) = (((never c n).getLastD 0 : Nat) : Int) := by
  rw [missed_eq, ← last_ints]
  have h := never_sorted c n
  cases e : Sj07.ints (never c n) with
  | nil => rfl
  | cons x xs =>
    rw [e] at h
    exact max_last xs x h
theorem missed_len (c : Cellar) (n : Nat) : (missed c n).length = (never c n).length := by rw [missed_eq, ints_len]

/-! plain -/
def pstep (c : Cellar) (s : Nat × List Nat) (i : Nat) : Nat × List Nat :=
  (s.1 - min (c.getD i ⟨0, 0⟩).stock (s.1 / (c.getD i ⟨0, 0⟩).size) * (c.getD i ⟨0, 0⟩).size, s.2.set i (min (c.getD i ⟨0, 0⟩).stock (s.1 / (c.getD i ⟨0, 0⟩).size)))
def merge (pl : List Nat) (prs : List (Nat × Nat)) : List Nat := prs.foldl (fun pl x => pl.set x.1 x.2) pl
theorem plain_fold (c : Cellar) : ∀ (is : List Nat) (v : Nat) (pl : List Nat), (∀ i ∈ is, (c.getD i ⟨0, 0⟩).size ≠ 0) →
    is.foldl (pstep c) (v, pl) = ((plainFrom c is v).2, merge pl (plainFrom c is v).1)
  | [], _, _, _ => rfl
  | i :: is, v, pl, h => by
    have h0 := h i (List.mem_cons_self ..)
    rw [List.foldl_cons]
    have e : (if (c.getD i ⟨0, 0⟩).size = 0 then 0 else min (c.getD i ⟨0, 0⟩).stock (v / (c.getD i ⟨0, 0⟩).size)) = min (c.getD i ⟨0, 0⟩).stock (v / (c.getD i ⟨0, 0⟩).size) := if_neg h0
    have ih := plain_fold c is (v - min (c.getD i ⟨0, 0⟩).stock (v / (c.getD i ⟨0, 0⟩).size) * (c.getD i ⟨0, 0⟩).size) (pl.set i (min (c.getD i ⟨0, 0⟩).stock (v / (c.getD i ⟨0, 0⟩).size))) fun x hx => h x (List.mem_cons_of_mem _ hx)
    show is.foldl (pstep c) (pstep c (v, pl) i) = _
    unfold plainFrom
    simp only [e]
    exact ih
theorem plainFrom_keys (c : Cellar) : ∀ (is : List Nat) (v : Nat), (plainFrom c is v).1.map (·.1) = is
  | [], _ => rfl
  | i :: is, v => by
    unfold plainFrom
    simp only [List.map_cons]
    rw [plainFrom_keys c is]
theorem merge_eq : ∀ (prs : List (Nat × Nat)) (pl : List Nat), (prs.map (·.1)).Nodup → (∀ x ∈ prs, x.1 < pl.length) →
    merge pl prs = (List.range pl.length).map fun i => ((prs.find? fun x => x.1 == i).map fun x => x.2).getD (pl.getD i 0)
  | [], pl, _, _ => by
    show pl = _
    apply List.ext_getElem?
    intro i
    rw [List.getElem?_map]
    by_cases h : i < pl.length
    · rw [List.getElem?_range h]
      simp [h]
    · rw [List.getElem?_eq_none (by omega), List.getElem?_eq_none (by simp; omega)]
      rfl
  | x :: r, pl, hn, hl => by
    have hn2 := List.nodup_cons.mp hn
    have ih := merge_eq r (pl.set x.1 x.2) hn2.2 fun y hy => by
      rw [List.length_set]
      exact hl y (List.mem_cons_of_mem _ hy)
    show merge (pl.set x.1 x.2) r = _
    rw [ih, List.length_set]
    refine List.map_congr_left fun i hi => ?_
    have hi := List.mem_range.mp hi
    rw [List.find?_cons]
    by_cases h : x.1 = i
    · have e1 : (x.1 == i) = true := by simpa using h
      have e2 : r.find? (fun y => y.1 == i) = none := by
        rw [List.find?_eq_none]
        intro y hy hq
        have hq : y.1 = i := by simpa using hq
        exact hn2.1 (List.mem_map.mpr ⟨y, hy, hq.trans h.symm⟩)
      rw [e1, e2]
      subst h
      simp [List.getElem?_set, hi]
    · have e1 : (x.1 == i) = false := by simpa using h
      rw [e1]
      simp [List.getElem?_set, h]
theorem sorted_perm (c : Cellar) : (sorted c).Perm (List.range c.length) := List.mergeSort_perm _ _
theorem sorted_mem {c : Cellar} {i : Nat} (h : i ∈ sorted c) : i < c.length := List.mem_range.mp ((sorted_perm c).mem_iff.mp h)
theorem sorted_len (c : Cellar) : (sorted c).length = c.length := by rw [(sorted_perm c).length_eq, List.length_range]
theorem getD_ok {c : Cellar} (w : WF c) {i : Nat} (h : i < c.length) : 1 ≤ (c.getD i ⟨0, 0⟩).size ∧ (c.getD i ⟨0, 0⟩).size ≤ 60 ∧ (c.getD i ⟨0, 0⟩).stock ≤ 6 := by
  have e : c.getD i ⟨0, 0⟩ = c[i] := by simp [h]
  rw [e]
  exact w.ok _ (List.getElem_mem h)
theorem plain_eq {c : Cellar} (w : WF c) (v : Nat) : (sorted c).foldl (pstep c) (v, List.replicate c.length 0) = ((Sj07.plain c v).2, (Sj07.plain c v).1) := by
  rw [plain_fold c _ _ _ fun i hi => by
    have := (getD_ok w (sorted_mem hi)).1
    omega]
  have hk := plainFrom_keys c (sorted c) v
  rw [merge_eq _ _ (by rw [hk]; exact (sorted_perm c).nodup_iff.mpr List.nodup_range) (fun x hx => by
    rw [List.length_replicate]
    refine sorted_mem ?_
    rw [← hk]
    exact List.mem_map.mpr ⟨x, hx, rfl⟩)]
  rw [List.length_replicate]
  show _ = ((plainFrom c (sorted c) v).2, (List.range c.length).map fun i => (((plainFrom c (sorted c) v).1.find? fun x => x.1 == i).map fun x => x.2).getD 0)
  congr 1
  refine List.map_congr_left fun i hi => ?_
  have hi := List.mem_range.mp hi
  congr 1
  simp [hi]
theorem szs_at {c : Cellar} {i : Nat} (h : i < c.length) : (szs c)[i]? = some ((c.getD i ⟨0, 0⟩).size : Int) := by simp [szs, h]
theorem stk_at {c : Cellar} {i : Nat} (h : i < c.length) : (stk c)[i]? = some ((c.getD i ⟨0, 0⟩).stock : Int) := by simp [stk, h]
theorem pstep_len (c : Cellar) : ∀ (is : List Nat) (s : Nat × List Nat), (is.foldl (pstep c) s).2.length = s.2.length
  | [], _ => rfl
  | i :: is, s => by
    rw [List.foldl_cons, pstep_len c is]
    simp [pstep]
theorem pstep_le (c : Cellar) : ∀ (is : List Nat) (s : Nat × List Nat), (is.foldl (pstep c) s).1 ≤ s.1
  | [], _ => Nat.le_refl _
  | i :: is, s => by
    rw [List.foldl_cons]
    refine Nat.le_trans (pstep_le c is _) ?_
    simp [pstep]

/-! sorted: the program's order is the specification's -/
def leP (c : Cellar) (i k : Nat) : Bool := decide (-((c.getD i ⟨0, 0⟩).size : Int) < -((c.getD k ⟨0, 0⟩).size : Int) ∨ (-((c.getD i ⟨0, 0⟩).size : Int) = -((c.getD k ⟨0, 0⟩).size : Int) ∧ (i : Int) ≤ (k : Int)))
theorem sorted_eq (c : Cellar) : (List.range c.length).mergeSort (leP c) = sorted c := by
  unfold sorted
  congr 1
  funext i k
  unfold leP
  rw [Bool.eq_iff_iff]
  simp only [decide_eq_true_eq, Bool.or_eq_true, Bool.and_eq_true, beq_iff_eq]
  omega
end CM

/-! ## Cp -/
namespace CM
open Sj07

/-! the list of calls -/
theorem rows_len : ∀ (k : Nat) (l : List Int) (xs : List (List Int)) (t : List Int), PyFlat.rows k l = some (xs, t) → xs.length = k
  | 0, l, xs, t, h => by
    simp only [PyFlat.rows, Option.some.injEq, Prod.mk.injEq] at h
    rw [← h.1]
    rfl
  | k + 1, l, xs, t, h => by
    unfold PyFlat.rows at h
    split at h
    · cases h
    · split at h
      · cases h
      · rename_i e
        simp only [Option.some.injEq, Prod.mk.injEq] at h
        rw [← h.1, List.length_cons, rows_len k _ _ _ e]
theorem row_cons (n : Int) (r : List Int) : PyFlat.row (n :: r) = if 0 ≤ n ∧ n.toNat ≤ r.length then some (r.take n.toNat, r.drop n.toNat) else none := rfl
theorem row_some {l ns t : List Int} (h : PyFlat.row l = some (ns, t)) : l = (ns.length : Int) :: (ns ++ t) := by
  cases l with
  | nil => simp [PyFlat.row] at h
  | cons n r =>
    rw [row_cons] at h
    by_cases q : 0 ≤ n ∧ n.toNat ≤ r.length
    · rw [if_pos q] at h
      simp only [Option.some.injEq, Prod.mk.injEq] at h
      obtain ⟨h1, h2⟩ := h
      rw [← h1, ← h2, List.take_append_drop, List.length_take]
      congr 1
      omega
    · rw [if_neg q] at h
      cases h
def callK (p : Int) (ns : List Int) (k : Int) (t : List Int) : Option (List (List Int) × List Int) := if 0 ≤ k then (match PyFlat.rows k.toNat t with
      | none => none
      | some (xs, u) => some ((p :: ns) :: xs, u)) else none
theorem call_none {p : Int} {r : List Int} (h : PyFlat.row r = none) : PyWide.call (p :: r) = none := by
  show (match PyFlat.row r with | none => none | some (_, []) => none | some (ns, k :: t) => callK p ns k t) = none
  rw [h]
theorem call_nil {p : Int} {r ns : List Int} (h : PyFlat.row r = some (ns, [])) : PyWide.call (p :: r) = none := by
  show (match PyFlat.row r with | none => none | some (_, []) => none | some (ns, k :: t) => callK p ns k t) = none
  rw [h]
theorem call_cons {p k : Int} {r ns t : List Int} (h : PyFlat.row r = some (ns, k :: t)) : PyWide.call (p :: r) = callK p ns k t := by
  show (match PyFlat.row r with | none => none | some (_, []) => none | some (ns, k :: t) => callK p ns k t) = callK p ns k t
  rw [h]
theorem callK_some {p k : Int} {ns t u : List Int} {c : List (List Int)} (h : callK p ns k t = some (c, u)) : 0 ≤ k ∧ ∃ xs, PyFlat.rows k.toNat t = some (xs, u) ∧ c = (p :: ns) :: xs := by
  unfold callK at h
  by_cases hk : 0 ≤ k
  · rw [if_pos hk] at h
    cases e : PyFlat.rows k.toNat t with
    | none =>
      rw [e] at h
      cases h
    | some x =>
      obtain ⟨xs, u'⟩ := x
      rw [e] at h
      simp only [Option.some.injEq, Prod.mk.injEq] at h
      exact ⟨hk, xs, by rw [h.2], h.1.symm⟩
  · rw [if_neg hk] at h
    cases h
theorem call_some {l u : List Int} {c : List (List Int)} (h : PyWide.call l = some (c, u)) (h1 : c.length = 1) : ∃ (p : Int) (ns : List Int), l = p :: (ns.length : Int) :: (ns ++ 0 :: u) ∧ c = [p :: ns] := by
  cases l with
  | nil => simp [PyWide.call] at h
  | cons p r =>
    cases e : PyFlat.row r with
    | none =>
      rw [call_none e] at h
      cases h
    | some x =>
      obtain ⟨ns, t⟩ := x
      cases t with
      | nil =>
        rw [call_nil e] at h
        cases h
      | cons k t =>
        rw [call_cons e] at h
        obtain ⟨hk, xs, e2, h2⟩ := callK_some h
        rw [h2, List.length_cons] at h1
        have hx : xs = [] := List.eq_nil_of_length_eq_zero (by omega)
        subst hx
        have hk2 := rows_len _ _ _ _ e2
        have hk0 : k.toNat = 0 := by simpa using hk2.symm
        have hk3 : k = 0 := by omega
        subst hk3
        have e3 : PyFlat.rows 0 t = some ([], u) := e2
        simp only [PyFlat.rows, Option.some.injEq, Prod.mk.injEq, true_and] at e3
        subst e3
        refine ⟨p, ns, ?_, h2⟩
        rw [row_some e]
theorem calls_cons {f : Nat} {l : List Int} {c : List (List Int)} {cs : List (List (List Int))} (h : PyWide.calls f l = some (c :: cs)) (h1 : c.length = 1) :
    ∃ (p : Int) (ns u : List Int) (f' : Nat), l = p :: (ns.length : Int) :: (ns ++ 0 :: u) ∧ c = [p :: ns] ∧ PyWide.calls f' u = some cs := by
  cases l with
  | nil => cases f <;> simp [PyWide.calls] at h
  | cons p r =>
    cases f with
    | zero => simp [PyWide.calls] at h
    | succ f =>
      unfold PyWide.calls at h
      split at h
      · cases h
      · rename_i c' t e
        split at h
        · cases h
        · rename_i cs' e2
          simp only [Option.some.injEq, List.cons.injEq] at h
          obtain ⟨h2, h3⟩ := h
          subst h2 h3
          obtain ⟨q, ns, e3, e4⟩ := call_some e h1
          exact ⟨q, ns, t, f, e3, e4, e2⟩
theorem calls_nil {f : Nat} {l : List Int} (h : PyWide.calls f l = some []) : l = [] := by
  cases l with
  | nil => rfl
  | cons p r =>
    cases f with
    | zero => simp [PyWide.calls] at h
    | succ f =>
      unfold PyWide.calls at h
      split at h
      · cases h
      · split at h
        · cases h
        · simp at h

/-! one call -/
def nat32 (z : Int) : Prop := 0 ≤ z ∧ z < 4294967296
theorem asked1_of {c : List (List Int)} (h : Sj07Neutral.asked1 c = true) : c.length = 1 ∧ (∀ z ∈ c.headD [], nat32 z) ∧ ∃ q, Sj07Neutral.callOf (c.headD []) = some q := by
  unfold Sj07Neutral.asked1 at h
  simp only [Bool.and_eq_true, beq_iff_eq, List.all_eq_true, Option.isSome_iff_exists] at h
  refine ⟨h.1, fun z hz => ?_, h.2.2⟩
  have := h.2.1 z hz
  simp only [Sj07Neutral.natural, Bool.and_eq_true, decide_eq_true_eq] at this
  exact ⟨this.1, by have := this.2; omega⟩
theorem toNat_ints : ∀ (l : List Int), (∀ z ∈ l, nat32 z) → Sj07.ints (l.map Int.toNat) = l
  | [], _ => rfl
  | z :: l, h => by
    have ih := toNat_ints l fun x hx => h x (List.mem_cons_of_mem _ hx)
    have hz := (h z (List.mem_cons_self ..)).1
    simp only [Sj07.ints, List.map_cons] at ih ⊢
    rw [ih]
    congr 1
    omega
/-- what a call of a place has -/
inductive Shape : Int → List Int → Call → Prop
  | begins : Shape 0 [] .begins
  | kind (s n : Nat) (hs : s < 4294967296) (hn : n < 4294967296) : Shape 1 [(s : Int), (n : Int)] (.kind s n)
  | check (v : Nat) (r : List Nat) (hv : v < 4294967296) (hr : ∀ n ∈ r, n < 4294967296) (hl : r.length ≤ 6) : Shape 2 ((v : Int) :: Sj07.ints r) (.check v r)
  | full (v : Nat) (hv : v < 4294967296) : Shape 3 [(v : Int)] (.full v)
  | fewest (v : Nat) (hv : v < 4294967296) : Shape 4 [(v : Int)] (.fewest v)
  | never (v : Nat) (hv : v < 4294967296) : Shape 5 [(v : Int)] (.never v)
  | plain (v : Nat) (hv : v < 4294967296) : Shape 6 [(v : Int)] (.plain v)
theorem ints_lt32 {l : List Nat} (h : ∀ z ∈ Sj07.ints l, nat32 z) : ∀ n ∈ l, n < 4294967296 := fun n hn => by
  have := (h (n : Int) (List.mem_map.mpr ⟨n, hn, rfl⟩)).2
  omega
theorem shape_of {p : Int} {ns : List Int} {q : Call} (h : ∀ z ∈ p :: ns, nat32 z) (e : Sj07Neutral.callOf (p :: ns) = some q) : Shape p ns q := by
  have hp := toNat_ints _ h
  unfold Sj07Neutral.callOf at e
  generalize (p :: ns).map Int.toNat = l at e hp
  have hall : ∀ n ∈ l, n < 4294967296 := ints_lt32 (by rw [hp]; exact h)
  split at e <;> (try cases e)
  · have hp' := List.cons.inj hp
    rw [← hp'.1, ← hp'.2]
    exact .begins
  · rename_i s n
    have hp' := List.cons.inj hp
    rw [← hp'.1, ← hp'.2]
    exact .kind s n (hall _ (by simp)) (hall _ (by simp))
  · rename_i v r
    split at e
    · cases e
      have hp' := List.cons.inj hp
      rw [← hp'.1, ← hp'.2]
      exact .check v r (hall _ (by simp)) (fun n hn => hall _ (by simp [hn])) (by assumption)
    · cases e
  · rename_i v
    have hp' := List.cons.inj hp
    rw [← hp'.1, ← hp'.2]
    exact .full v (hall _ (by simp))
  · rename_i v
    have hp' := List.cons.inj hp
    rw [← hp'.1, ← hp'.2]
    exact .fewest v (hall _ (by simp))
  · rename_i v
    have hp' := List.cons.inj hp
    rw [← hp'.1, ← hp'.2]
    exact .never v (hall _ (by simp))
  · rename_i v
    have hp' := List.cons.inj hp
    rw [← hp'.1, ← hp'.2]
    exact .plain v (hall _ (by simp))

/-! the state -/
theorem step_wf {c : Cellar} (w : WF c) (q : Call) : WF (Sj07.step c q).1 := by
  cases q with
  | begins => exact wf_nil
  | kind s n =>
    show WF (if s < 1 ∨ 60 < s ∨ 6 < n then (c, ok (-1)) else if 4 ≤ List.length c then (c, ok (-5)) else (c ++ [{ size := s, stock := n }], ok ↑(List.length c))).1
    by_cases h1 : s < 1 ∨ 60 < s ∨ 6 < n
    · rw [if_pos h1]
      exact w
    · rw [if_neg h1]
      by_cases h2 : 4 ≤ List.length c
      · rw [if_pos h2]
        exact w
      · rw [if_neg h2]
        refine ⟨by show (c ++ [_]).length ≤ 4; rw [List.length_append]; show c.length + 1 ≤ 4; omega, fun k hk => ?_⟩
        rcases List.mem_append.mp hk with hk | hk
        · exact w.ok k hk
        · rw [List.mem_singleton.mp hk]
          show 1 ≤ s ∧ s ≤ 60 ∧ n ≤ 6
          omega
  | check v l => unfold Sj07.step; dsimp only; split <;> exact w
  | full v => unfold Sj07.step; dsimp only; split <;> exact w
  | fewest v => unfold Sj07.step; dsimp only; split <;> exact w
  | never v => unfold Sj07.step; dsimp only; split <;> exact w
  | plain v => unfold Sj07.step; dsimp only; split <;> exact w
theorem step_call {c : Cellar} {p : Int} {ns : List Int} {q : Call} (e : Sj07Neutral.callOf (p :: ns) = some q) : Sj07Neutral.step c [p :: ns] = ((Sj07.step c q).1, toldA (Sj07.step c q).2) := by
  unfold Sj07Neutral.step
  show (match Sj07Neutral.callOf (p :: ns) with | none => (c, []) | some q => _) = _
  rw [e]
  rfl

/-! the answers from here on -/
def ans (c : Cellar) (cs : List (List (List Int))) : List Int := PyFlat.told (PyFlat.played Sj07Neutral.step c cs)
theorem ans_nil (c : Cellar) : ans c [] = [] := rfl
theorem ans_cons (c : Cellar) (d : List (List Int)) (cs : List (List (List Int))) : ans c (d :: cs) = ((Sj07Neutral.step c d).2.length : Int) :: (Sj07Neutral.step c d).2 ++ ans (Sj07Neutral.step c d).1 cs := by
  unfold ans PyFlat.told
  rw [PyFlat.played, List.flatMap_cons]
theorem answers_of {l : List Int} {cs : List (List (List Int))} (h : PySj07.calls l = some cs) : PySj07.answers l = ans Sj07Neutral.start cs := by
  unfold PySj07.answers
  rw [h]
  rfl
theorem asked_of {l : List Int} (h : PySj07.answers_asked l = true) : ∃ cs, PyWide.calls l.length l = some cs ∧ (∀ c ∈ cs, Sj07Neutral.asked1 c = true) ∧ PySj07.answers l = ans [] cs ∧ (PySj07.answers l).length ≤ 10000000 := by
  unfold PySj07.answers_asked at h
  split at h
  · cases h
  · rename_i cs e
    simp only [Bool.and_eq_true] at h
    obtain ⟨⟨⟨⟨_, _⟩, _⟩, h1⟩, h2⟩ := h
    refine ⟨cs, e, fun c hc => ?_, answers_of e, of_decide_eq_true h2⟩
    unfold Sj07Neutral.asked at h1
    simp only [Bool.and_eq_true] at h1
    exact List.all_eq_true.mp h1.1 c hc
/-- at the place i of l: the calls cs are left, the cellar is c, told is out -/
structure Mid (l : List Int) (i : Nat) (cs : List (List (List Int))) (c : Cellar) (out : List Int) : Prop where
  le : i ≤ l.length
  parse : ∃ f, PyWide.calls f (l.drop i) = some cs
  asked : ∀ d ∈ cs, Sj07Neutral.asked1 d = true
  wf : WF c
  eq : PySj07.answers l = out ++ ans c cs
  short : (PySj07.answers l).length ≤ 10000000
theorem mid_start {l : List Int} (h : PySj07.answers_asked l = true) : ∃ cs, Mid l 0 cs [] [] := by
  obtain ⟨cs, h1, h2, h3, h4⟩ := asked_of h
  exact ⟨cs, Nat.zero_le _, ⟨_, by rw [List.drop_zero]; exact h1⟩, h2, wf_nil, by rw [List.nil_append]; exact h3, h4⟩
theorem mid_end {l : List Int} {i : Nat} {cs : List (List (List Int))} {c : Cellar} {out : List Int} (m : Mid l i cs c out) (h : ¬ i < l.length) : PySj07.answers l = out := by
  obtain ⟨f, hf⟩ := m.parse
  have hn : l.drop i = [] := List.drop_eq_nil_of_le (by omega)
  rw [hn] at hf
  have e : cs = [] := by cases f <;> simpa [PyWide.calls] using hf.symm
  have := m.eq
  rw [e, ans_nil, List.append_nil] at this
  exact this
/-- one call more -/
theorem mid_next {l : List Int} {i : Nat} {cs : List (List (List Int))} {c : Cellar} {out : List Int} (m : Mid l i cs c out) (h : i < l.length) :
    ∃ (p : Int) (ns : List Int) (q : Call) (cs' : List (List (List Int))), l[i]? = some p ∧ l[i + 1]? = some (ns.length : Int) ∧ i + 2 + ns.length < l.length ∧ (l.drop (i + 2)).take ns.length = ns ∧ Shape p ns q ∧
      Mid l (i + 2 + ns.length + 1) cs' (Sj07.step c q).1 (out ++ (((toldA (Sj07.step c q).2).length : Int) :: toldA (Sj07.step c q).2)) ∧ (out ++ (((toldA (Sj07.step c q).2).length : Int) :: toldA (Sj07.step c q).2)).length ≤ 10000000 := by
  obtain ⟨f, hf⟩ := m.parse
  have hne : l.drop i ≠ [] := fun z => by
    have := congrArg List.length z
    simp at this
    omega
  cases cs with
  | nil => exact absurd (calls_nil hf) hne
  | cons d cs' =>
    have ha := m.asked d (List.mem_cons_self ..)
    obtain ⟨h1, h2, q, h3⟩ := asked1_of ha
    obtain ⟨p, ns, u, f', e1, e2, e3⟩ := calls_cons hf h1
    subst e2
    have h2 : ∀ z ∈ p :: ns, nat32 z := h2
    have h3 : Sj07Neutral.callOf (p :: ns) = some q := h3
    have hlen := congrArg List.length e1
    simp at hlen
    have at_ : ∀ j, l[i + j]? = (p :: (ns.length : Int) :: (ns ++ 0 :: u))[j]? := fun j => by rw [← e1, List.getElem?_drop]
    have drop_ : ∀ j, l.drop (i + j) = (p :: (ns.length : Int) :: (ns ++ 0 :: u)).drop j := fun j => by rw [← e1, List.drop_drop]
    have es := step_call (c := c) h3
    have eq2 : PySj07.answers l = (out ++ (((toldA (Sj07.step c q).2).length : Int) :: toldA (Sj07.step c q).2)) ++ ans (Sj07.step c q).1 cs' := by
      rw [m.eq, ans_cons, es, List.append_assoc]
    refine ⟨p, ns, q, cs', ?_, ?_, by omega, ?_, shape_of h2 h3, ⟨by omega, ⟨f', ?_⟩, fun x hx => m.asked x (List.mem_cons_of_mem _ hx), step_wf m.wf q, eq2, m.short⟩, ?_⟩
    · exact (at_ 0).trans rfl
    · exact (at_ 1).trans rfl
    · rw [drop_ 2]
      simp
    · have : i + 2 + ns.length + 1 = i + (2 + (ns.length + 1)) := by omega
      rw [this, drop_]
      have e : (p :: (ns.length : Int) :: (ns ++ 0 :: u)).drop (2 + (ns.length + 1)) = u := by
        rw [← List.drop_drop]
        show (ns ++ 0 :: u).drop (ns.length + 1) = u
        rw [← List.drop_drop]
        simp
      rw [e]
      exact e3
    · have := m.short
      rw [eq2, List.length_append] at this
      omega
end CM

/-! ## Ra -/
set_option Elab.async false
set_option linter.all false
set_option maxRecDepth 100000
set_option maxHeartbeats 4000000
namespace CR
open PySem PySem.Spec PyProof.Rows L2
open PySem.W (AlikeAll minD maxD maxD_ints min_list_data max_list_default)

/-! rows: lists of ints, each at an address of its own -/
def RowsAt (H : Hp) (bs : List Addr) (rows : List (List Int)) : Prop := Paired (fun (b : Addr) (r : List Int) => H b = some (.lst (r.map V.int))) bs rows
def rowD (r : List Int) : PyData := .list (r.map PyData.int)
theorem ints_read {g : Heap} : ∀ {ns : List Int} {us : List Value}, Vals (ns.map V.int) us → ReadsAll g us (ns.map PyData.int) []
  | [], us, rv => by
    cases rv
    exact ReadsAll.nil
  | n :: ns, us, rv => by
    cases rv with
    | cons r1 r2 =>
      obtain ⟨t, rfl⟩ := r1
      exact ReadsAll.cons (as := []) (bs := []) (Reads.int n t) (ints_read r2)
theorem ints_back {g : Heap} : ∀ {ns ms : List Int} {us : List Value} {as : List Addr}, Vals (ns.map V.int) us → ReadsAll g us (ms.map PyData.int) as → ns = ms
  | [], [], _, _, _, _ => rfl
  | [], m :: ms, us, _, rv, rd => by
    cases rv
    cases rd
  | n :: ns, [], us, _, rv, rd => by
    cases rv
    cases rd
  | n :: ns, m :: ms, us, _, rv, rd => by
    cases rv with
    | cons r1 r2 =>
      obtain ⟨t, rfl⟩ := r1
      cases rd with
      | cons d1 d2 =>
        cases d1
        rw [ints_back r2 d2]
section
variable {P : Program} {w : World} {H : Hp} {g : Heap}
theorem row_obj (hok : HOk P w H g) {b : Addr} {r : List Int} (e : H b = some (.lst (r.map V.int))) : ∃ (us : List Value) (o : Obj) (n : Nat), Vals (r.map V.int) us ∧ g.get? b = some o ∧ o.cls = .type "list" ∧ o.data = .seq us.toArray n := by
  obtain ⟨_, us, n, rv, eg⟩ := hok b _ e
  exact ⟨us, _, n, rv, eg, rfl, rfl⟩
theorem row_read (hok : HOk P w H g) {b : Addr} {r : List Int} (e : H b = some (.lst (r.map V.int))) : Reads g (.ref b) (rowD r) [b] := by
  obtain ⟨us, o, n, rv, eg, ec, ed⟩ := row_obj hok e
  exact Reads.list eg ec ed (by simpa using ints_read rv)
theorem rows_read (hok : HOk P w H g) : ∀ {bs : List Addr} {rows : List (List Int)} {us : List Value}, RowsAt H bs rows → Vals (bs.map V.ref) us → ∃ as, ReadsAll g us (rows.map rowD) as
  | _, _, us, .nil, rv => by
    cases rv
    exact ⟨_, ReadsAll.nil⟩
  | _, _, us, .cons (a := b) (b := r) e t, rv => by
    cases rv with
    | cons r1 r2 =>
      obtain ⟨as, q⟩ := rows_read hok (show RowsAt H _ _ from t) r2
      cases r1
      exact ⟨_, ReadsAll.cons (row_read hok e) q⟩
end
theorem rows_at {H : Hp} : ∀ {bs : List Addr} {rows : List (List Int)} {b : Addr}, RowsAt H bs rows → b ∈ bs → ∃ r : List Int, H b = some (.lst (r.map V.int))
  | _, _, b, .nil, m => absurd m (by simp)
  | _, _, b, .cons (a := b0) (b := r) e t, m => by
    rcases List.mem_cons.mp m with z | z
    · rw [z]
      exact ⟨r, e⟩
    · exact rows_at (show RowsAt H _ _ from t) z
theorem alike_ints : ∀ (xs ys : List Int), PySem.W.alikeAll (xs.map PyData.int) (ys.map PyData.int) = true
  | [], _ => by simp [PySem.W.alikeAll]
  | _ :: _, [] => by simp [PySem.W.alikeAll]
  | x :: xs, y :: ys => by
    rw [List.map_cons, List.map_cons, PySem.W.alikeAll, alike_ints xs ys]
    rfl
theorem alike_rows (rows : List (List Int)) : AlikeAll (rows.map rowD) := by
  refine ⟨fun x hx y hy => ?_, fun x hx => ?_⟩
  · obtain ⟨r, _, rfl⟩ := List.mem_map.mp hx
    obtain ⟨r', _, rfl⟩ := List.mem_map.mp hy
    exact alike_ints r r'
  · obtain ⟨r, _, rfl⟩ := List.mem_map.mp hx
    intro z
    cases z
theorem alike_flat (ns : List Int) : AlikeAll (ns.map PyData.int) := by
  refine ⟨fun x hx y hy => ?_, fun x hx => ?_⟩
  · obtain ⟨r, _, rfl⟩ := List.mem_map.mp hx
    obtain ⟨r', _, rfl⟩ := List.mem_map.mp hy
    rfl
  · obtain ⟨r, _, rfl⟩ := List.mem_map.mp hx
    intro z
    cases z
theorem depth_flat : ∀ ns : List Int, PyData.depthAll (ns.map PyData.int) ≤ 1
  | [] => by simp [PyData.depthAll]
  | n :: ns => by
    have ih := depth_flat ns
    rw [List.map_cons, PyData.depthAll]
    have e : (PyData.int n).depth ≤ 1 := by simp [PyData.depth]
    omega
theorem depth_rows : ∀ rows : List (List Int), PyData.depthAll (rows.map rowD) ≤ 2
  | [] => by simp [PyData.depthAll]
  | r :: rows => by
    have ih := depth_rows rows
    have e : (rowD r).depth ≤ 2 := by
      unfold rowD
      have := depth_flat r
      simp only [PyData.depth]
      omega
    rw [List.map_cons, PyData.depthAll]
    omega
theorem row_lt (a b : List Int) : PySem.W.dataLt (rowD a) (rowD b) = decide (a < b) := by
  unfold rowD
  rw [PySem.W.dataLt_list]
  exact PySem.W.dataLt_ints a b
theorem min_rows : ∀ (rs : List (List Int)) (r : List Int), minD (rowD r) (rs.map rowD) = rowD (CM.minI r rs)
  | [], r => rfl
  | x :: rs, r => by
    have ih := min_rows rs (if x < r then x else r)
    unfold minD CM.minI at ih ⊢
    rw [List.map_cons, List.foldl_cons, List.foldl_cons, row_lt]
    rw [← ih]
    congr 1
    by_cases h : x < r
    · rw [if_pos (decide_eq_true h), if_pos h]
    · rw [if_neg (by simpa using h), if_neg h]
section
variable {X : Cx}
/-- min(rows) -/
def rMinRows (K : PySem.W.Frag) : List V → Hp → VK → Prop := fun vs H Q => ∃ (a : Addr) (bs : List Addr) (r : List Int) (rs : List (List Int)), vs = [V.ref a] ∧ SqL K H a (bs.map V.ref) ∧ RowsAt H bs (r :: rs) ∧
  ∀ b, H b = some (.lst ((CM.minI r rs).map V.int)) → Q (.ref b) H
theorem cr_minRows (hc : X.calm = true) (hu : X.A.units + 64 < cLine) : CallR X (.builtin "min") (rMinRows X.K) := by
  intro pins s σ H vs us Q I rv h
  obtain ⟨a, bs, r, rs, rfl, hs, hrows, q⟩ := h
  rw [Vals.ref1 rv]
  obtain ⟨its, ri, hl, _⟩ := I.list hs
  obtain ⟨as, rd⟩ := rows_read (g := s.heap) I.hok hrows ri
  have hd := depth_rows (r :: rs)
  refine min_list_data (vs := its.toArray) (x := rowD r) (xs := rs.map rowD) (I.ok.hd hc) hl.isList (by simpa using rd) (alike_rows (r :: rs)) (by
    have e : PyData.depthAll (rowD r :: rs.map rowD) ≤ 2 := hd
    omega) fun i v g' tk cs hv hrd hk => ?_
  have hvi : its[i]? = some v := by simpa using hv
  obtain ⟨j, hj⟩ : ∃ x, (bs.map V.ref)[i]? = some x := by
    have e := ri.length
    have hi : i < its.length := (List.getElem?_eq_some_iff.mp hvi).1
    exact ⟨_, List.getElem?_eq_getElem (by omega)⟩
  obtain ⟨u, hu1, hu2⟩ := ri.get hj
  rw [hvi] at hu1
  cases hu1
  rw [List.getElem?_map] at hj
  cases hb : bs[i]? with
  | none =>
    rw [hb] at hj
    cases hj
  | some b =>
    rw [hb] at hj
    cases hj
    have ev : v = Value.ref b := hu2
    subst ev
    obtain ⟨r', hr'⟩ := rows_at hrows (List.mem_of_getElem? hb)
    rw [min_rows] at hrd
    obtain ⟨us', o, n, rv', eo, ec, ed⟩ := row_obj (g := s.heap) I.hok hr'
    have eo' := hk _ _ eo
    have em : r' = CM.minI r rs := by
      unfold rowD at hrd
      cases hrd with
      | list e1 e2 e3 e4 =>
        rw [eo'] at e1
        cases e1
        rw [ed] at e3
        cases e3
        exact ints_back rv' (by simpa using e4)
    rw [em] at hr'
    exact ⟨.ref b, H, I.kept hk, rfl, q b hr'⟩
/-- max(xs, default=d) -/
def rMaxDef (K : PySem.W.Frag) : List V → List V → Hp → VK → Prop := fun vs zs H Q => ∃ (a : Addr) (ns : List Int), vs = [V.ref a] ∧ zs = [V.int 0] ∧ SqL K H a (ns.map V.int) ∧ Q (.int (CM.maxI ns)) H
theorem cr_maxDef (hc : X.calm = true) (hu : X.A.units + 64 < cLine) : CallRK X (.builtin "max") [Str.ofString "default"] (rMaxDef X.K) := by
  intro pins s σ H vs zs us ws Q I rv rz h
  obtain ⟨a, ns, rfl, rfl, sq, q⟩ := h
  rw [Vals.ref1 rv]
  obtain ⟨d, rfl, t0, rfl⟩ := vals1 rz
  obtain ⟨its, ri, hl, _⟩ := I.list sq
  have rd := ints_read (g := s.heap) ri
  have hd := depth_flat ns
  refine max_list_default (vs := its.toArray) (xs := ns.map PyData.int) (I.ok.hd hc) hl.isList (by simpa using rd) (alike_flat ns) (by omega) (fun en h' tk hk => ?_) fun y ys i v h' tk cs ey hv hrd hk => ?_
  · have e0 : ns = [] := by simpa using en
    subst e0
    exact ⟨.int 0, H, I.kept hk, ⟨_, rfl⟩, q⟩
  · cases ns with
    | nil => cases ey
    | cons n r =>
      rw [List.map_cons] at ey
      obtain ⟨e1, e2⟩ := List.cons.inj ey
      rw [← e1, ← e2, maxD_ints] at hrd
      cases hrd with
      | int m t => exact ⟨.int _, H, I.kept hk, ⟨t, rfl⟩, q⟩
end
end CR

/-! ## Rb -/
set_option Elab.async false
set_option linter.all false
set_option maxRecDepth 100000
set_option maxHeartbeats 4000000
namespace CR
open PySem PySem.Spec PyProof.Rows L2
open PySem.W (KeepsBut keyH_end AllAlike EachIs dataLe dataLe_ii KeyedOut keyedOut_each dataKind SortsAt)

/-! range(n) as a value -/
theorem cr_rng {X : Cx} : CallR X (.type "range") (fun vs H Q => ∃ j : Int, vs = [V.int j] ∧ ∀ p, H p = none → Q (.ref p) (upd H p (.rng 0 j))) := by
  intro pins s σ H vs us Q I rv h
  obtain ⟨j, rfl, q⟩ := h
  obtain ⟨u, rfl, t, rfl⟩ := vals1 rv
  have nw : H s.heap.objs.size = none := I.hok.fresh (Nat.le_refl _)
  refine call_range_1 ⟨.ref s.heap.objs.size, _, I.laid (o := .rng 0 j) (fun b o e => Heap.get?_push_of_some _ e) (Nat.le_refl _) ⟨_, _, _, Heap.get?_push_size _ rfl⟩, rfl, q _ nw⟩

/-! ### what a key's calls leave -/
section
variable {P : Program} {w : World} {H H1 : Hp} {g g1 g2 : Heap} {fs : List Addr}
theorem un_then (u : Un fs [] H H1 g g1) (k : ∀ b o, g.get? b = some o → ∀ o1, g1.get? b = some o1 → g2.get? b = some o1) : Un fs [] H H1 g g2 :=
  ⟨fun b o e n hb hx => k b o e _ (u.keep b o e n hb hx),
   fun b o e n hb hx => by
    obtain ⟨sl, q⟩ := u.slot b o e n hb hx
    exact ⟨sl, k b o e _ q⟩,
   u.free,
   fun b o e hx => by
    obtain ⟨o1, q⟩ := u.there b o e hx
    exact ⟨o1, k b o e _ q⟩,
   u.tups, u.frzs, u.tbls⟩
theorem hok_but {c : Addr} (x : HOk P w H g) (nc : H c = none) (k : ∀ b o, b ≠ c → g.get? b = some o → g1.get? b = some o) : HOk P w H g1 := fun a o e =>
  (x a o e).stay (fun b u hb q => k b u (fun z => by
    rcases hb with r | r
    · rw [← r, z, nc] at e
      cases e
    · rw [z, nc] at r
      cases r) q) (fun _ q => q) fun _ _ q => q
end
structure KC (X : Cx) (s : Shared) (H : Hp) (s' : Shared) (H' : Hp) : Prop where
  os : s'.os = s.os
  bare : AllBare s'.gens
  un : Un (frs X.stack) [] H H' s.heap s'.heap
  hok : HOk X.prog X.w H' s'.heap
  same : Same H H'
section
variable {X : Cx} {pins : List (Addr × Obj)} {σ : L2.St} {H H' : Hp} {s s' : Shared}
theorem KC.inv (I : Inv X pins σ H s) (k : KC X s H s' H') : Inv X pins σ H' s' := I.call' (ch := []) k.os k.un k.hok k.bare fun b z => absurd z (by simp)
/-- f of each int below n: a new pair -/
def KeyRun (X : Cx) (s : Shared) (H : Hp) (f : Value) (n : Nat) (k1 k2 : Nat → Int) : Prop :=
  ∀ (i : Nat) (t : Tok) (s' : Shared) (H' : Hp), i < n → KC X s H s' H' → wpAny (model X.prog X.w) X.A.in1.in1 (call f [.int (i : Int) t])
    (fun u s'' => ∃ p H'', u = .ref p ∧ KC X s' H' s'' H'' ∧ H'' p = some (.tup [.int (k1 i), .int (k2 i)])) (fun _ _ => False) s'
def pairD (x y : Int) : PyData := .tuple [.int x, .int y]
theorem pair_read {P : Program} {w : World} {g : Heap} (hok : HOk P w H g) {p : Addr} {x y : Int} (e : H p = some (.tup [.int x, .int y])) : Reads g (.ref p) (pairD x y) [] := by
  obtain ⟨_, us, rv, o, eg, ec, m, ed⟩ := hok p _ e
  obtain ⟨u1, u2, rfl, r1, r2⟩ := vals2 rv
  obtain ⟨t1, rfl⟩ := r1
  obtain ⟨t2, rfl⟩ := r2
  exact Reads.tuple eg ec ed (ReadsAll.cons (as := []) (bs := []) (Reads.int x t1) (ReadsAll.cons (as := []) (bs := []) (Reads.int y t2) ReadsAll.nil))
theorem each_end {α β : Type} {R : α → β → Prop} {as : List α} {bs : List β} {a : α} {b : β} (h : EachIs R as bs) (r : R a b) : EachIs R (as ++ [a]) (bs ++ [b]) := by
  induction h with
  | nil => exact .cons r .nil
  | cons r1 _ ih => exact .cons r1 ih
/-- the keys so far -/
structure KS (X : Cx) (s : Shared) (H : Hp) (L kS : Addr) (e1 : Nat) (k1 k2 : Nat → Int) (j : Nat) (s' : Shared) (H' : Hp) (kA : Array Value) (e : Nat) : Prop where
  kc : KC X s H s' H'
  nL : H' L = none
  nK : H' kS = none
  atK : s'.heap.get? kS = some (seqObj "list" kA e)
  atL : s'.heap.get? L = some (seqObj "list" #[] e1)
  keys : EachIs (fun (v : Value) (i : Nat) => ∃ p, v = .ref p ∧ H' p = some (.tup [.int (k1 i), .int (k2 i)])) kA.toList (List.range j)
theorem gone_nofs (I : Inv X pins σ H s) {a : Addr} (h : s.heap.get? a = none) : a ∉ frs X.stack := fun z => by
  rcases List.mem_cons.mp (I.stkSub a z) with q | q
  · obtain ⟨_, ⟨o, _, _, ho, _⟩, _⟩ := I.loc
    rw [q, ho] at h
    cases h
  · obtain ⟨_, o, ho, _⟩ := I.ok.funs.mem q
    obtain ⟨sl, q2⟩ := I.base.slot a o ho (I.ok.frf a q) q fun z2 => I.ok.exfs a z2 q
    rw [q2] at h
    cases h
theorem rest_run {f : Value} {vs : List Value} {L kS : Addr} {e1 n : Nat} {k1 k2 : Nat → Int} {H0 : Hp} {s0 : Shared} {R : PySem.Fin → Shared → Prop} {E : Value → Shared → Prop} (I : Inv X pins σ H0 s0) (hL : s0.heap.get? L = none) (hK : s0.heap.get? kS = none) (hne : kS ≠ L)
    (hlen : vs.length = n) (hn : n ≤ 1000) (hv : EachIs (fun (v : Value) (i : Nat) => ∃ t, v = .int (i : Int) t) vs (List.range n)) (run : KeyRun X s0 H0 f n k1 k2) (hun : X.A.units + 64 < cLine)
    (g0 : KS X s0 H0 L kS e1 k1 k2 0 s H #[] 0)
    (fin : ∀ s' H' out c, KC X s0 H0 s' H' → H' L = none → s'.heap.get? L = some (seqObj "list" (List.toArray out) c) → EachIs (fun (v : Value) (i : Nat) => ∃ t, v = .int (i : Int) t) out ((List.range n).mergeSort fun p q => decide (k1 p < k1 q ∨ (k1 p = k1 q ∧ k2 p ≤ k2 q))) → R (.done (.ret .none)) s') :
    wpAny (model X.prog X.w) X.A.in1.in1 (ksk_rest L f false vs.toArray e1 (.ref kS)) R E s := by
  unfold ksk_rest
  refine wpAny_bind (wpAny_rule ?_)
  rw [← Array.forIn_toList]
  simp only [List.toList_toArray]
  refine wpAny_bind (ksk_fold (fun j s' => ∃ H' kA e, KS X s0 H0 L kS e1 k1 k2 j s' H' kA e) vs 0 s ⟨H, #[], 0, g0⟩ ?turns ?ends)
  case turns =>
    rintro j x s' hx ⟨H', kA, e, G⟩
    rw [Nat.zero_add] at G ⊢
    have hj : j < n := by
      have := (List.getElem?_eq_some_iff.mp hx).1
      omega
    obtain ⟨t, rfl⟩ : ∃ t, x = Value.int (j : Int) t := by
      have hz : (x, j) ∈ vs.zip (List.range n) := List.mem_of_getElem? (i := j) (by rw [List.getElem?_zip_eq_some]; exact ⟨hx, List.getElem?_range hj⟩)
      exact hv.zip _ hz
    have hka : kA.size = j := by
      have := G.keys.length
      rw [Array.length_toList, List.length_range] at this
      exact this
    refine wpAny_bind (wpAny_attempt (wpAny_mono (run j t s' H' hj G.kc) (fun u s'' he => ?_) fun _ _ z => z.elim))
    obtain ⟨p, H'', rfl, C, hp⟩ := he
    have nfs : ∀ {b : Addr}, s0.heap.get? b = none → b ∉ frs X.stack := fun hb => gone_nofs I hb
    have atK2 := C.un.keep kS _ G.atK G.nK (nfs hK) (by simp)
    have atL2 := C.un.keep L _ G.atL G.nL (nfs hL) (by simp)
    have nK2 := C.un.free kS _ G.atK G.nK (by simp)
    have nL2 := C.un.free L _ G.atL G.nL (by simp)
    have sb := Heap.SameBut.update s''.heap kS (Obj.mapSeq (·.push (Value.ref p)))
    obtain ⟨c2, hc2⟩ : ∃ c2, (s''.heap.update kS (Obj.mapSeq (·.push (Value.ref p)))).get? kS = some (seqObj "list" (kA.push (.ref p)) c2) := ⟨_, get?_update_seq atK2 (·.push (Value.ref p))⟩
    have lim : kA.size ≤ sizeLine := by
      rw [hka, sizeLine_eq]
      omega
    refine wpAny_bind (listUpdate_at atK2 rfl ?_ lim (by
      rw [Array.size_push]
      exact Nat.succ_le_succ lim))
    refine wpAny_pure ⟨rfl, H'', kA.push (.ref p), c2, ⟨⟨C.os.trans G.kc.os, C.bare, ?_, ?_, G.kc.same.trans C.same⟩, nL2, nK2, hc2, (sb.2 L hne.symm).trans atL2, ?_⟩⟩
    · refine un_then (G.kc.un.trans C.un) fun b o e0 o1 e2 => (sb.2 b fun z => ?_).trans e2
      rw [z, hK] at e0
      cases e0
    · exact hok_but C.hok nK2 fun b o hb e2 => (sb.2 b hb).trans e2
    · have ea : (kA.push (Value.ref p)).toList = kA.toList ++ [Value.ref p] := by simp
      rw [ea, List.range_succ]
      exact each_end (G.keys.mono fun v i ⟨q, ev, eq⟩ => ⟨q, ev, C.same _ _ eq⟩) ⟨p, rfl, hp⟩
  case ends =>
    rintro s' ⟨H', kA, e, G⟩
    rw [Nat.zero_add, hlen] at G
    have hsz : kA.size = vs.length := by
      have := G.keys.length
      rw [Array.length_toList, List.length_range] at this
      omega
    refine wpAny_bind (listItems_at G.atK rfl ?_)
    have hz : vs.length ≤ sizeLine := by
      rw [hlen, sizeLine_eq]
      omega
    have hal : AllAlike ((List.range n).map fun i => pairD (k1 i) (k2 i)) := fun d hd d' hd' => by
      obtain ⟨i, _, rfl⟩ := List.mem_map.mp hd
      obtain ⟨i', _, rfl⟩ := List.mem_map.mp hd'
      rfl
    have hk' : EachIs (fun (v : Value) (d : PyData) => ∃ as, Reads s'.heap v d as) kA.toList ((List.range n).map fun i => pairD (k1 i) (k2 i)) := by
      have aux : ∀ {us : List Value} {is : List Nat}, EachIs (fun (v : Value) (i : Nat) => ∃ p, v = .ref p ∧ H' p = some (.tup [.int (k1 i), .int (k2 i)])) us is →
          EachIs (fun (v : Value) (d : PyData) => ∃ as, Reads s'.heap v d as) us (is.map fun i => pairD (k1 i) (k2 i)) := fun {us is} h => by
        induction h with
        | nil => exact .nil
        | cons r _ ih =>
          obtain ⟨p, rfl, ep⟩ := r
          exact .cons ⟨_, pair_read G.kc.hok ep⟩ ih
      exact aux G.keys
    have S := SortsAt.data (prog := X.prog) (w := X.w) (A := X.A.in1.in1) (s := s') hk' hal (.inl fun d hd => by
      obtain ⟨i, _, rfl⟩ := List.mem_map.mp hd
      exact ⟨_, _, rfl⟩) (fun d hd => by
      obtain ⟨i, _, rfl⟩ := List.mem_map.mp hd
      have e2 : (pairD (k1 i) (k2 i)).depth ≤ 3 := by simp [pairD, PyData.depth, PyData.depthAll]
      have e3 : X.A.in1.in1.units = X.A.units + 1 + 1 := rfl
      omega)
    refine keyH_end (h₁ := PySem.W.hideAll s'.heap [kS]) (fun b o hb q => PySem.W.of_hideAll _ q) (PySem.W.hideAll_none _ (by simp)) G.atK G.atL hne S hsz hz fun g tk c kp ho => ?_
    have kept : ∀ b o, b ≠ L → b ≠ kS → s'.heap.get? b = some o → g.get? b = some o := fun b o h1 h2 q => kp b o h1 (PySem.W.hideAll_get _ q (by simpa using h2))
    have h0 : ∀ {b : Addr} {o : Obj}, s0.heap.get? b = some o → b ≠ L ∧ b ≠ kS := fun {b o} q => by
      refine ⟨fun z => ?_, fun z => ?_⟩
      · rw [z, hL] at q
        cases q
      · rw [z, hK] at q
        cases q
    have un2 : Un (frs X.stack) [] H0 H' s0.heap g := un_then G.kc.un fun b o e0 o1 e2 => kept b o1 (h0 e0).1 (h0 e0).2 e2
    have hok2 : HOk X.prog X.w H' g := fun a o e2 => (G.kc.hok a o e2).stay (fun b u hb q => kept b u (fun z => by
      rcases hb with r | r
      · rw [← r, z, G.nL] at e2
        cases e2
      · rw [z, G.nL] at r
        cases r) (fun z => by
      rcases hb with r | r
      · rw [← r, z, G.nK] at e2
        cases e2
      · rw [z, G.nK] at r
        cases r) q) (fun _ q => q) fun _ _ q => q
    have ko : KeyedOut false ((List.range n).map fun i => pairD (k1 i) (k2 i)) vs (PySem.W.sortVals (dataKind s'.heap ((List.range n).map fun i => pairD (k1 i) (k2 i))) false kA.toList vs) := ⟨s'.heap, kA.toList, hal, rfl, hk'⟩
    have eo := keyedOut_each (fun i => pairD (k1 i) (k2 i)) ko hv
    have ele : dataLe false (fun i => pairD (k1 i) (k2 i)) = fun p q => decide (k1 p < k1 q ∨ (k1 p = k1 q ∧ k2 p ≤ k2 q)) := dataLe_ii k1 k2
    rw [ele] at eo
    exact fin _ H' _ c ⟨G.kc.os, G.kc.bare, un2, hok2, G.kc.same⟩ G.nL ho eo
end
end CR

/-! ## Rc -/
set_option Elab.async false
set_option linter.all false
set_option maxRecDepth 100000
set_option maxHeartbeats 4000000
namespace CR
open PySem PySem.Spec PyProof.Rows L2 LamX NdefX
open PySem.W (EachIs)
section
variable {X : Cx} {pins : List (Addr × Obj)} {σ : L2.St} {H H' : Hp} {s s' : Shared}
theorem each_of_get {α β : Type} {R : α → β → Prop} : ∀ (as : List α) (bs : List β), as.length = bs.length → (∀ (j : Nat) (a : α) (b : β), as[j]? = some a → bs[j]? = some b → R a b) → EachIs R as bs
  | [], [], _, _ => .nil
  | [], _ :: _, h, _ => by simp at h
  | _ :: _, [], h, _ => by simp at h
  | a :: as, b :: bs, h, f => .cons (f 0 a b rfl rfl) (each_of_get as bs (by simpa using h) fun j x y e1 e2 => f (j + 1) x y (by simpa using e1) (by simpa using e2))
theorem vals_each : ∀ {us : List Value} {is : List Nat}, EachIs (fun (v : Value) (i : Nat) => ∃ t, v = .int (i : Int) t) us is → Vals (is.map fun i : Nat => V.int (i : Int)) us := fun {us is} h => by
  induction h with
  | nil => exact .nil
  | cons r _ ih => exact .cons r ih
def keyLe (k1 k2 : Nat → Int) (p q : Nat) : Bool := decide (k1 p < k1 q ∨ (k1 p = k1 q ∧ k2 p ≤ k2 q))
/-- sorted(range(n), key=f) -/
theorem sort_rng {r : Addr} {f : Value} {q : Addr} {n : Nat} {k1 k2 : Nat → Int} {Q : VK} (hc : X.calm = true) (hun : X.A.units + 64 < cLine) (ef : f = .ref q) (I : Inv X pins σ H s) (hr : H r = some (.rng 0 (n : Int))) (hn : n ≤ 1000) (run : KeyRun X s H f n k1 k2)
    (fin : ∀ H' L, Same H H' → H L = none → H' L = some (.lst (((List.range n).mergeSort (keyLe k1 k2)).map fun i : Nat => V.int (i : Int))) → Q (.ref L) H') :
    wpAny (model X.prog X.w) X.A (call (.builtin "sorted") [.ref r] [(Str.ofString "key", f)]) (EP X pins σ Q) X.xe s := by
  subst ef
  obtain ⟨t, u, v, hrng⟩ := I.hok r _ hr
  have sz : ∀ {m : Nat}, m ≤ 1000 → m ≤ sizeLine := fun h => by
    rw [sizeLine_eq]
    omega
  refine PyProof.Rows.call_function_entry_kw PyProof.Rows.kind_sorted PyProof.Rows.plain_sorted PyProof.Rows.entry_sorted (PyProof.Rows.ksk_s1 _ _) ?_
  unfold Builtin.«sorted»
  refine wpAny_bind (m := checkCount "sorted" 1 1 _) (wpAny_pure ?_)
  refine wpAny_bind (collect_range (A := X.A.in1) (n := n) (I.ok.hd hc) hrng (small_one (by omega) (by omega) (by omega) (by omega)) (by rw [rangeSize_nat]; omega) (by omega) fun g tk acc hk hi => ?_)
  have hal : acc.toList.length = n := by
    rw [Array.length_toList]
    exact hi.1
  have hv : EachIs (fun (v : Value) (i : Nat) => ∃ t, v = .int (i : Int) t) acc.toList (List.range n) := each_of_get _ _ (by rw [hal, List.length_range]) fun j a b e1 e2 => by
    obtain ⟨t, rfl⟩ := hi.2 j a (by rw [← e1, Array.getElem?_toList])
    have hb : b = j := by
      have hj : j < n := by
        have := (List.getElem?_eq_some_iff.mp e1).1
        omega
      rw [List.getElem?_range hj] at e2
      exact (Option.some.inj e2).symm
    subst hb
    refine ⟨t, ?_⟩
    congr 1
    omega
  generalize hvs : acc.toList = vs at *
  refine wpAny_bind (wpAny_newList ?_ (sz (by omega)))
  have atL : (g.push (seqObj "list" vs.toArray 0)).get? g.objs.size = some (seqObj "list" vs.toArray 0) := Heap.get?_push_size _ rfl
  refine wpAny_bind (wpAny_holding (PyProof.Rows.wpAny_call_entry_kw PyProof.Rows.slot_list_sort ⟨_, atL, rfl⟩ PyProof.Rows.entry_list_sort ?_ (PyProof.Rows.ksk_l1 _ _)))
  rw [PyProof.Rows.ksk_t1]
  unfold PyProof.Rows.ksk_tree
  have gone : ∀ {b : Addr}, g.objs.size ≤ b → s.heap.get? b = none := fun {b} hb => by
    cases e : s.heap.get? b with
    | none => rfl
    | some o => exact absurd (Heap.lt_size (hk b o e)) (Nat.not_lt.mpr hb)
  have hokg : HOk X.prog X.w H g := I.hok.kept hk
  refine wpAny_bind (listItems_at atL rfl ?_)
  refine wpAny_bind (listUpdate_at atL rfl ?_ (sz (by rw [List.size_toArray]; omega)) (Nat.zero_le _))
  obtain ⟨e1, atL1⟩ : ∃ e1, ((g.push (seqObj "list" vs.toArray 0)).update g.objs.size (Obj.mapSeq fun _ => (#[] : Array Value))).get? g.objs.size = some (seqObj "list" #[] e1) := ⟨_, get?_update_seq atL fun _ => #[]⟩
  refine wpAny_bind (seqEpoch_at atL1 rfl ?_)
  refine wpAny_bind (wpAny_newTuple ?_ (sz (by show vs.length ≤ 1000; omega)))
  refine wpAny_bind (wpAny_newList ?_ (Nat.zero_le _))
  refine wpAny_holding ?_
  have hsz : (((g.push (seqObj "list" vs.toArray 0)).update g.objs.size (Obj.mapSeq fun _ => (#[] : Array Value))).push (seqObj "tuple" vs.toArray 0)).objs.size = g.objs.size + 2 := by
    rw [size_push', Heap.size_update, size_push']
  have kp : ∀ b o, s.heap.get? b = some o → ((((g.push (seqObj "list" vs.toArray 0)).update g.objs.size (Obj.mapSeq fun _ => (#[] : Array Value))).push (seqObj "tuple" vs.toArray 0)).push (seqObj "list" #[] 0)).get? b = some o := fun b o e => by
    have e2 := hk b o e
    exact Heap.get?_push_of_some _ (Heap.get?_push_of_some _ ((Heap.get?_update_ne _ _ _ _ (Nat.ne_of_lt (Heap.lt_size e2))).trans (Heap.get?_push_of_some _ e2)))
  have hne : (((g.push (seqObj "list" vs.toArray 0)).update g.objs.size (Obj.mapSeq fun _ => (#[] : Array Value))).push (seqObj "tuple" vs.toArray 0)).objs.size ≠ g.objs.size := by
    rw [hsz]
    exact Nat.ne_of_gt (Nat.lt_add_of_pos_right (by decide))
  have hgo : s.heap.get? (((g.push (seqObj "list" vs.toArray 0)).update g.objs.size (Obj.mapSeq fun _ => (#[] : Array Value))).push (seqObj "tuple" vs.toArray 0)).objs.size = none := gone (by
    rw [hsz]
    exact Nat.le_add_right _ _)
  refine rest_run (s0 := s) (H0 := H) (H := H) (n := n) (k1 := k1) (k2 := k2) I (gone (Nat.le_refl _)) hgo hne hal hn hv run hun ?g0 ?fin
  case g0 =>
    refine ⟨⟨rfl, I.bare, Un.kept kp, I.hok.kept kp, Same.refl H⟩, hokg.fresh (Nat.le_refl _), hokg.fresh (by rw [hsz]; exact Nat.le_add_right _ _), Heap.get?_push_size _ rfl, Heap.get?_push_of_some _ (Heap.get?_push_of_some _ atL1), ?_⟩
    exact .nil
  case fin =>
    intro s' H' out c k nL at' eo
    refine ⟨.none, rfl, wpAny_pure ⟨.ref g.objs.size, rfl, ?_⟩⟩
    have nH : H g.objs.size = none := hokg.fresh (Nat.le_refl _)
    have rv := vals_each eo
    have len : (((List.range n).mergeSort (keyLe k1 k2)).map fun i : Nat => V.int (i : Int)).length ≤ sizeLine := by
      rw [List.length_map, List.length_mergeSort, List.length_range]
      exact sz hn
    have ne : ∀ {b : Addr} {u : HO}, H b = some u → b ≠ g.objs.size := fun e z => by
      rw [z, nH] at e
      cases e
    have un2 : Un (frs X.stack) [] H (upd H' g.objs.size (.lst (((List.range n).mergeSort (keyLe k1 k2)).map fun i : Nat => V.int (i : Int)))) s.heap s'.heap :=
      ⟨k.un.keep, k.un.slot, fun b o e n hx => (upd_ne fun z => by
          rw [z, gone (Nat.le_refl _)] at e
          cases e).trans (k.un.free b o e n hx), k.un.there, fun b xs e => (upd_ne (ne e)).trans (k.un.tups b xs e), fun b o xs e => (upd_ne (ne e)).trans (k.un.frzs b o xs e), fun b ps e => by
        obtain ⟨more, q⟩ := k.un.tbls b ps e
        exact ⟨more, (upd_ne (ne e)).trans q⟩⟩
    have hok2 : HOk X.prog X.w (upd H' g.objs.size (.lst (((List.range n).mergeSort (keyLe k1 k2)).map fun i : Nat => V.int (i : Int)))) s'.heap := fun b u e => by
      by_cases hb : b = g.objs.size
      · subst hb
        rw [upd_same] at e
        cases e
        exact ⟨len, out, c, rv, at'⟩
      · rw [upd_ne hb] at e
        have nm : ∀ {d : Addr} {z : HO}, H' d = some z → d ≠ g.objs.size := fun e z => by
          rw [z, nL] at e
          cases e
        exact (k.hok b u e).stay (fun _ _ _ q => q) (fun d q => (upd_ne (nm q)).trans q) fun d xs q => (upd_ne (nm q)).trans q
    refine ⟨.ref g.objs.size, _, I.call' (ch := []) k.os un2 hok2 k.bare (fun b z => absurd z (by simp)), rfl, fin _ _ (fun b o e => (upd_ne (ne e)).trans (k.same b o e)) nH upd_same⟩
end
end CR

/-! ## Rd -/
set_option Elab.async false
set_option linter.all false
set_option maxRecDepth 100000
set_option maxHeartbeats 4000000
namespace CR
open PySem PySem.Spec PyProof.Rows L2 LamX NdefX
section
variable {X : Cx} {pins : List (Addr × Obj)} {σ : L2.St} {H H' : Hp} {s s' : Shared}
/-- the lambda in a nested def's words; its body stands apart -/
abbrev lamW (X : Cx) (params : Arguments) (scope : Scope) (c' : Addr) : NF := ⟨"<lambda>", X.env.qual ++ "<lambda>", params, [], scope, cloFrom X.env.cells scope.names [], c'⟩
theorem lam_key {N fr : List Str} {js : List Nat} {a : Str} {params : Arguments} {body : Expr} {scope : Scope} {f c' : Addr} {pm ctv : Value} {tb : TE} {n : Nat} {k1 k2 : Nat → Int}
    (I : Inv X pins σ H s) (hr : Room 3 X.A) (S : NScope N [a] fr scope) (caps : Caps X (cloFrom X.env.cells scope.names []) fr js)
    (hf : s.heap.get? f = some (PySem.W.kla_obj "<lambda>" (X.env.qual ++ "<lambda>") params body scope (cloFrom X.env.cells scope.names []) pm c' ctv)) (hfn : H f = none) (hfr : f ∉ frs X.stack) (hcd : H c' = some (CodeO c' (X.env.qual ++ "<lambda>")))
    (hbind : ∀ (q : Str) (cl : List (Str × Addr)) (pm cv ctv u : Value), bindArgs (PySem.W.kla_fn "<lambda>" q params body scope cl pm cv ctv) ⟨[u], []⟩ = pure [(a, u)])
    (hbody : ∀ (A : Around) (outer : List Env) (s : Shared) (H : Hp), PE (ncx L2.CX0 X.prog X.w X.K X.mg X.base N (lamW X params scope c') f A outer s H L2.E0).nox body tb)
    (ht : ∀ i, i < n → ∀ H', Same H H' → tb (startF N [.int (i : Nat)] (js.map (slotAt σ))) H' fun v H'' => ∃ p, v = .ref p ∧ Same H' H'' ∧ H'' p = some (.tup [.int (k1 i), .int (k2 i)])) : KeyRun X s H (.ref f) n k1 k2 := by
  intro i t s' H' hi k
  have J : Inv X pins σ H' s' := k.inv I
  have hf' := k.un.keep f _ hf hfn hfr (by simp)
  have C := cells_of J caps
  have e0 := J.env0.in1.in1
  have hr1 : Room 1 X.A.in1.in1 := (hr.in1).in1
  have lim : s'.heap.NoLimit := J.nolimit
  have rc : codeAny (model X.prog X.w) X.A.in1.in1 (.call (.ref f) ⟨[.int (i : Int) t], []⟩) (L2.CR L2.CX0 X.stack X.prog X.w H' s' (fun v H'' => ∃ p, v = .ref p ∧ Same H' H'' ∧ H'' p = some (.tup [.int (k1 i), .int (k2 i)])) L2.E0) s' := by
    refine PySem.W.kla_callFunE hr1.depth hf' rfl S.co S.gen rfl (codeO_at J.hok (k.same _ _ hcd)) ?_
    rw [hbind]
    refine wpAny_pure (wpAny_newFunctionEnv S.nocell (fun y hy => by
      rw [List.mem_singleton.mp hy]
      exact S.par a (by simp)) (fun g hns hsb => ⟨lim.fresh _ hsb, ?_⟩) S.kind)
    show codeAny _ _ (.expr body (envF (lamW X params scope c') f s'.heap.objs.size)) _ _
    have kp : ∀ b o, s'.heap.get? b = some o → g.get? b = some o := fun b o e => hsb.extBut b o (Nat.ne_of_lt (Heap.lt_size e)) (Heap.get?_push_of_some _ e)
    have J3 : Inv (ncx L2.CX0 X.prog X.w X.K X.mg X.base N (lamW X params scope c') f X.A.in1.in1 X.stack s' H' L2.E0) [] (startF N [.int (i : Nat)] (js.map (slotAt σ))) H' { s' with heap := g, toks := s'.toks + ([(a, Value.int (i : Int) t)] : List (Str × Value)).length } :=
      inv_startN (us := [Value.int (i : Int) t]) (ps := [a]) S hr1.hd e0 rfl (.cons ⟨t, rfl⟩ .nil) C hns kp
    refine PySem.W.kla_codeExpr (wpAny_mono ((hbody _ _ _ _).nox.run [] _ _ H' _ J3 (ht i hi H' k.same)) (fun v s'' hq => ?_) fun e s'' hq => hq)
    obtain ⟨v', H'', J', rv, q⟩ := hq
    exact ⟨v', H'', J'.os, J'.bare, J'.base, J'.hok, rv, q⟩
  refine wpAny_call (codeAny_mono rc fun r s'' hq => ?_)
  cases r with
  | error e => exact (show False from hq).elim
  | ok fl =>
    cases fl with
    | ret u =>
      obtain ⟨v, H'', os, bare, un, hok, rv, p, ep, sm, hp⟩ := hq
      subst ep
      exact ⟨p, H'', rv, ⟨os, bare, un, hok, sm⟩, hp⟩
    | next => exact False.elim hq
    | brk => exact False.elim hq
    | cont => exact False.elim hq
/-- sorted(e, key=lambda a: body), e a range from 0 -/
def rSortLam (T : List (Addr × Str)) (tb : TE) (N : List Str) (js : List Nat) (σ : L2.St) (Q : VK) (vs : List V) (H1 : Hp) : Prop := ∃ (r : Addr) (n : Nat) (k1 k2 : Nat → Int), vs = [V.ref r] ∧ H1 r = some (.rng 0 (n : Int)) ∧ n ≤ 1000 ∧ Tabs T H1 ∧
  ∀ H2, ExtN H1 H2 → Tabs T H2 → (∀ i, i < n → ∀ H3, Same H2 H3 → tb (startF N [.int (i : Nat)] (js.map (slotAt σ))) H3 fun v H4 => ∃ p, v = .ref p ∧ Same H3 H4 ∧ H4 p = some (.tup [.int (k1 i), .int (k2 i)])) ∧
    ∀ H3 L, Same H2 H3 → H2 L = none → H3 L = some (.lst (((List.range n).mergeSort (keyLe k1 k2)).map fun i : Nat => V.int (i : Int))) → Q (.ref L) H3
def tSortLam (T : List (Addr × Str)) (tb : TE) (N : List Str) (js : List Nat) (te : TE) : TE := fun σ H Q => te σ H fun x H1 => rSortLam T tb N js σ Q [x] H1
theorem pe_sortLam {T : List (Addr × Str)} {c P : Addr} {e : Expr} {te tb : TE} {N fr : List Str} {js : List Nat} {a : Str} {params : Arguments} {body : Expr} {scope : Scope} {p pos lpos kpos : Pos} (hg : Gl X "sorted") (hm : X.mg "sorted" = none) (hc : X.calm = true) (he : PE X e te)
    (TB : TabB X.base X.mg c P) (hcode : X.env.code = .ref c) (hmT : (P, X.env.qual ++ "<lambda>") ∈ T) (hu : ∀ p ∈ T, p.1 = P → p.2 = X.env.qual ++ "<lambda>") (hr : Room 3 X.A) (S : NScope N [a] fr scope)
    (hfree : ∀ y ∈ scope.names, y.2 = .free → X.env.scope.names.lookup y.1 = some .cell ∨ X.env.scope.names.lookup y.1 = some .free) (hfr : ∀ y ∈ fr, (y, NameKind.free) ∈ scope.names) (hjs : js.map (fun j => X.N[j]?) = fr.map some) (hdef : defaultsOf params X.env = ([], []))
    (hbind : ∀ (q : Str) (cl : List (Str × Addr)) (pm cv ctv u : Value), bindArgs (PySem.W.kla_fn "<lambda>" q params body scope cl pm cv ctv) ⟨[u], []⟩ = pure [(a, u)])
    (hbody : ∀ (f c' : Addr) (A : Around) (outer : List Env) (s : Shared) (H : Hp), PE (ncx L2.CX0 X.prog X.w X.K X.mg X.base N (lamW X params scope c') f A outer s H L2.E0).nox body tb)
    (ha : starEach [e] X.env = (false, eval e X.env) :: starEach [] X.env := by rfl) :
    PE X (.Call (.Name "sorted" p) [e] [⟨some "key", .Lambda params body scope lpos, kpos⟩] pos) (tSortLam T tb N js te) := by
  refine ⟨fun pins s σ H Q I h => ?_⟩
  refine wpAny_Call_Name_kw (ld_blt I hg hm (show bootBuiltins "sorted" = some (.builtin "sorted") by decide +kernel) ?_)
  have h2 : tCons te tNil σ H (rSortLam T tb N js σ Q) := h
  refine PyProof.Rows.callWith_kw (thn ((pa_cons he pa_nil ha).run pos pins s σ H _ I h2) fun us s1 ⟨vs, H1, I1, rv, q1⟩ => ?_) (by rw [ha]; rfl) (by rw [ha]; rfl) (by rfl) (by rfl)
  obtain ⟨r, n, k1, k2, ex, hrng, hn, hT, q2⟩ := q1
  subst ex
  rw [Vals.ref1 rv]
  have hfx : ∀ y ∈ scope.names, y.2 = .free → ∃ c, X.env.cells.lookup y.1 = some c := fun y hy e => (hfree y hy e).elim (fun z => I1.ok.has _ (.inl z)) fun z => I1.ok.has _ (.inr z)
  refine wpAny_evalAll_cons (wpAny_bind (lam_make2 I1 TB hcode hmT hu hT hdef hfx fun f c' pm ctv H2 s2 I2 eN T2 hf hfn hfs hco => wpAny_bind (wpAny_standAt (wpAny_pure (wpAny_evalAll_nil ?_)))))
  obtain ⟨hb, hq⟩ := q2 H2 eN T2
  refine sort_rng (q := f) hc (hr.units) rfl I2 (eN _ _ hrng fun ps z => by cases z) hn (lam_key I2 hr S (Caps.made I2.ok hfree hfr hjs) hf hfn hfs hco hbind (hbody f c') hb) fun H' L sm nL hl => hq H' L sm nL hl
end
end CR

/-! ## Db -/
set_option Elab.async false
set_option linter.all false
set_option maxRecDepth 100000
set_option maxHeartbeats 4000000
/-! the text of the program, its heap, what each def promises -/
namespace CD
open PySem PySem.Spec PyProof.Rows L2 LamX CR
open Sj07 (Cellar Call)
def topS (i : Nat) : Stmt := PySem.Challenge.pw_caskorders_s01_answers.main.body.getD i (.Pass ⟨0, 0, 0, 0⟩)
abbrev sOrder : Stmt := topS 12
abbrev sPlans : Stmt := topS 13
abbrev sBest : Stmt := topS 14
abbrev sInit : Stmt := inClass (topS 15) 0
abbrev sBegins : Stmt := inClass (topS 15) 1
abbrev sKind : Stmt := inClass (topS 15) 2
abbrev sCheck : Stmt := inClass (topS 15) 3
abbrev sFull : Stmt := inClass (topS 15) 4
abbrev sFewest : Stmt := inClass (topS 15) 5
abbrev sNever : Stmt := inClass (topS 15) 6
abbrev sPlain : Stmt := inClass (topS 15) 7
abbrev sFill : Stmt := inClass (topS 15) 8
abbrev sSome : Stmt := inClass (topS 15) 9
abbrev sLargest : Stmt := inClass (topS 15) 10
abbrev sCan : Stmt := inClass (topS 15) 11
abbrev sHeld : Stmt := inClass (topS 15) 12
abbrev sTo : Stmt := topS 16
abbrev sAns : Stmt := topS 17
/-- numbers as they lie in a list -/
abbrev vn (l : List Int) : List V := l.map V.int
/-! ### the cellar in the heap -/
def cF (a1 a2 : Addr) : List (Str × V) := [("sizes", .ref a1), ("stock", .ref a2)]
structure CellarAt (C : Addr) (H : Hp) (x dx a1 a2 : Addr) (c : Cellar) : Prop where
  ins : H x = some (.ins C dx (cF a1 a2))
  szs : H a1 = some (.lst (vn (CM.szs c)))
  stk : H a2 = some (.lst (vn (CM.stk c)))
  ne : a1 ≠ a2
theorem lk_one {k : Str} {v : V} {r : List (Str × V)} : List.lookup k ((k, v) :: r) = some v := by
  have e : (k == k) = true := beq_self_eq_true k
  simp only [List.lookup, e]
theorem lk_two {k g : Str} {v : V} {r : List (Str × V)} (h : (k == g) = false) : List.lookup k ((g, v) :: r) = List.lookup k r := by
  simp only [List.lookup, h]
theorem cF_sizes (a1 a2 : Addr) : (cF a1 a2).lookup ("sizes" : Str) = some (.ref a1) := lk_one
theorem cF_stock (a1 a2 : Addr) : (cF a1 a2).lookup ("stock" : Str) = some (.ref a2) := (lk_two (by decide +kernel)).trans lk_one
theorem cF_no {m : Str} (h1 : (m == ("sizes" : Str)) = false) (h2 : (m == ("stock" : Str)) = false) (a1 a2 : Addr) : (cF a1 a2).lookup m = none := (lk_two h1).trans ((lk_two h2).trans rfl)
theorem CellarAt.same {C : Addr} {H H' : Hp} {x dx a1 a2 : Addr} {c : Cellar} (h : CellarAt C H x dx a1 a2 c) (s : Same H H') : CellarAt C H' x dx a1 a2 c := ⟨s _ _ h.ins, s _ _ h.szs, s _ _ h.stk, h.ne⟩
theorem CellarAt.extN {C : Addr} {H H' : Hp} {x dx a1 a2 : Addr} {c : Cellar} (h : CellarAt C H x dx a1 a2 c) (s : ExtN H H') : CellarAt C H' x dx a1 a2 c :=
  ⟨s _ _ h.ins fun ps z => (by cases z), s _ _ h.szs fun ps z => (by cases z), s _ _ h.stk fun ps z => (by cases z), h.ne⟩
theorem same_new {H : Hp} {p : Addr} {o : HO} (h : H p = none) : Same H (upd H p o) := fun b x e => by
  rw [upd_ne (ne_of_none e h)]
  exact e
theorem Same.ext {H H' : Hp} (s : Same H H') : ExtN H H' := fun b o e _ => s b o e
theorem seq_ext {K : PySem.W.Frag} {H H' : Hp} {a : Addr} {xs : List V} (e : ExtN H H') (h : SqL K H a xs) : SqL K H' a xs := by
  rcases h with (h | ⟨o, h⟩) | h
  · exact .inl (.inl (e _ _ h fun ps z => by cases z))
  · exact .inl (.inr ⟨o, e _ _ h fun ps z => by cases z⟩)
  · exact .inr h
theorem rows_same {H H' : Hp} {bs : List Addr} {rows : List (List Int)} (h : RowsAt H bs rows) (s : Same H H') : RowsAt H' bs rows := Paired.mapP h fun b r e => s _ _ e
/-! ### what the top has written -/
structure Txt (K : PySem.W.Frag) (mg : Str → Option Value) (C : Addr) : Prop where
  cl : Cls K C
  nZ : NoAttr K C "sizes"
  nS : NoAttr K C "stock"
  gC : mg "Cellar" = some (.ref C)
  range : mg "range" = none
  len : mg "len" = none
  min : mg "min" = none
  max : mg "max" = none
  sum : mg "sum" = none
  all : mg "all" = none
  zip : mg "zip" = none
  sorted : mg "sorted" = none
  order : ∃ t, mg "LARGEST_ORDER" = some (.int 1500 t)
  size : ∃ t, mg "LARGEST_SIZE" = some (.int 60 t)
  most : ∃ t, mg "MOST_OF_A_KIND" = some (.int 6 t)
  kinds : ∃ t, mg "MOST_KINDS" = some (.int 4 t)
  c0 : ∃ t, mg "BEGINS" = some (.int 0 t)
  c1 : ∃ t, mg "KIND" = some (.int 1 t)
  c2 : ∃ t, mg "CHECK" = some (.int 2 t)
  c3 : ∃ t, mg "FULL" = some (.int 3 t)
  c4 : ∃ t, mg "FEWEST" = some (.int 4 t)
  c5 : ∃ t, mg "NEVER" = some (.int 5 t)
  c6 : ∃ t, mg "PLAIN" = some (.int 6 t)
/-! ### promises -/
def spOrder : Sp := fun vs H Q _ => ∃ z : Int, vs = [.int z] ∧ Q (.bl (decide (1 ≤ z ∧ z ≤ 1500))) H
def spPlans (K : PySem.W.Frag) : Sp := fun vs H Q _ => ∃ (a : Addr) (st : List Nat), vs = [.ref a] ∧ SqL K H a (vn (Sj07.ints st)) ∧ st.length ≤ 4 ∧ (∀ m ∈ st, m ≤ 6) ∧
  ∀ H' p bs, Same H H' → H' p = some (.lst (bs.map V.ref)) → RowsAt H' bs ((CM.plansN st).map Sj07.ints) → (∀ b ∈ bs, H b = none) → Q (.ref p) H'
def spBest (K : PySem.W.Frag) : Sp := fun vs H Q _ => ∃ (a : Addr) (bs : List Addr) (rows : List (List Int)), vs = [.ref a] ∧ SqL K H a (bs.map V.ref) ∧ RowsAt H bs rows ∧ rows.length ≤ 100000 ∧ (∀ r ∈ rows, r.length ≤ 100000) ∧
  ∀ H' p, Same H H' → H p = none → H' p = some (.lst (vn (CM.bestI rows))) → Q (.ref p) H'
def spInit (C : Addr) : Sp := fun vs H Q _ => ∃ (x dx : Addr), vs = [.ref x] ∧ H x = some (.ins C dx []) ∧
  ∀ H' a1 a2, CellarAt C H' x dx a1 a2 [] → H a1 = none → H a2 = none → (∀ b o, H b = some o → b ≠ x → H' b = some o) → Q .non H'
def spBegins (C : Addr) : Sp := fun vs H Q _ => ∃ (x dx a1 a2 : Addr) (c : Cellar), vs = [.ref x] ∧ CellarAt C H x dx a1 a2 c ∧
  ∀ H' b1 b2 p, CellarAt C H' x dx b1 b2 [] → H b1 = none → H b2 = none → (∀ b o, H b = some o → b ≠ x → H' b = some o) → H p = none → H' p = some (.lst [.int 0]) → Q (.ref p) H'
def spKind (C : Addr) : Sp := fun vs H Q _ => ∃ (x dx a1 a2 : Addr) (c : Cellar) (s n : Nat), vs = [.ref x, .int (s : Int), .int (n : Int)] ∧ CellarAt C H x dx a1 a2 c ∧ CM.WF c ∧
  ∀ H' p, CellarAt C H' x dx a1 a2 (Sj07.step c (.kind s n)).1 → (∀ b o, H b = some o → b ≠ a1 → b ≠ a2 → H' b = some o) → H p = none → H' p = some (.lst (vn (CM.toldA (Sj07.step c (.kind s n)).2))) → Q (.ref p) H'
/-- a call that reads alone -/
def spRead (K : PySem.W.Frag) (C : Addr) (arg : Cellar → List V → Hp → Call → Prop) : Sp := fun vs H Q _ => ∃ (x dx a1 a2 : Addr) (c : Cellar) (r : List V) (q : Call), vs = .ref x :: r ∧ CellarAt C H x dx a1 a2 c ∧ CM.WF c ∧ arg c r H q ∧
  ∀ H' p, Same H H' → H p = none → H' p = some (.lst (vn (CM.toldA (Sj07.step c q).2))) → Q (.ref p) H'
def argCheck (K : PySem.W.Frag) : Cellar → List V → Hp → Call → Prop := fun _ r H q => ∃ (v : Nat) (l : List Nat) (p : Addr), r = [.int (v : Int), .ref p] ∧ SqL K H p (vn (Sj07.ints l)) ∧ l.length ≤ 6 ∧ q = .check v l
def argFull : Cellar → List V → Hp → Call → Prop := fun _ r _ q => ∃ v : Nat, r = [.int (v : Int)] ∧ q = .full v
def argFewest : Cellar → List V → Hp → Call → Prop := fun _ r _ q => ∃ v : Nat, r = [.int (v : Int)] ∧ q = .fewest v
def argNever : Cellar → List V → Hp → Call → Prop := fun _ r _ q => ∃ v : Nat, r = [.int (v : Int)] ∧ q = .never v
def spFill (C : Addr) : Sp := fun vs H Q _ => ∃ (x dx a1 a2 : Addr) (c : Cellar) (v : Nat), vs = [.ref x, .int (v : Int)] ∧ CellarAt C H x dx a1 a2 c ∧ CM.WF c ∧
  ∀ H' p bs, Same H H' → H' p = some (.lst (bs.map V.ref)) → RowsAt H' bs (CM.fillRows c v) → Q (.ref p) H'
def spSome (C : Addr) : Sp := fun vs H Q _ => ∃ (x dx a1 a2 : Addr) (c : Cellar), vs = [.ref x] ∧ CellarAt C H x dx a1 a2 c ∧ CM.WF c ∧
  ∀ H' d kvs, Same H H' → H' d = some (.dK kvs) → (∀ z : Int, (valV kvs (Sum.inl z)).isSome = ((Sj07.plans c).map fun l => (Sj07.holds c l : Int)).contains z) → Q (.ref d) H'
def spLargest (C : Addr) (T : List (Addr × Str)) : Sp := fun vs H Q _ => ∃ (x dx a1 a2 : Addr) (c : Cellar), vs = [.ref x] ∧ CellarAt C H x dx a1 a2 c ∧ CM.WF c ∧ Tabs T H ∧
  ∀ H' p, ExtN H H' → Tabs T H' → (∀ b o, H b = some o → (∀ ps, o ≠ .tbl ps) → b ≠ p) → H' p = some (.lst (vn (Sj07.ints (Sj07.sorted c)))) → Q (.ref p) H'
def spPlain (C : Addr) (T : List (Addr × Str)) : Sp := fun vs H Q _ => ∃ (x dx a1 a2 : Addr) (c : Cellar) (v : Nat), vs = [.ref x, .int (v : Int)] ∧ CellarAt C H x dx a1 a2 c ∧ CM.WF c ∧ Tabs T H ∧
  ∀ H' p, ExtN H H' → Tabs T H' → (∀ b o, H b = some o → (∀ ps, o ≠ .tbl ps) → b ≠ p) → H' p = some (.lst (vn (CM.toldA (Sj07.step c (.plain v)).2))) → Q (.ref p) H'
def spCan (K : PySem.W.Frag) (C : Addr) : Sp := fun vs H Q _ => ∃ (x dx a1 a2 p : Addr) (c : Cellar) (l : List Nat), vs = [.ref x, .ref p] ∧ CellarAt C H x dx a1 a2 c ∧ CM.WF c ∧ SqL K H p (vn (Sj07.ints l)) ∧ l.length ≤ 6 ∧
  ∀ H', Same H H' → Q (.bl (Sj07.can c l)) H'
def spHeld (K : PySem.W.Frag) (C : Addr) : Sp := fun vs H Q _ => ∃ (x dx a1 a2 p : Addr) (c : Cellar) (l : List Nat), vs = [.ref x, .ref p] ∧ CellarAt C H x dx a1 a2 c ∧ CM.WF c ∧ SqL K H p (vn (Sj07.ints l)) ∧ l.length ≤ 6 ∧
  ∀ H', Same H H' → Q (.int (Sj07.holds c l : Int)) H'
def spTo (K : PySem.W.Frag) (C : Addr) (T : List (Addr × Str)) : Sp := fun vs H Q _ => ∃ (x dx a1 a2 nb : Addr) (c : Cellar) (p : Int) (ns : List Int) (q : Call), vs = [.ref x, .int p, .ref nb] ∧ CellarAt C H x dx a1 a2 c ∧ CM.WF c ∧ SqL K H nb (vn ns) ∧ CM.Shape p ns q ∧ Tabs T H ∧
  ∀ H' r b1 b2, CellarAt C H' x dx b1 b2 (Sj07.step c q).1 → (b1 = a1 ∨ H b1 = none) → (b2 = a2 ∨ H b2 = none) → (∀ b o, H b = some o → (∀ ps, o ≠ .tbl ps) → b ≠ x → b ≠ a1 → b ≠ a2 → H' b = some o) → Tabs T H' →
    (∀ b o, H b = some o → (∀ ps, o ≠ .tbl ps) → b ≠ r) → H' r = some (.lst (vn (CM.toldA (Sj07.step c q).2))) → Q (.ref r) H'
def spAns (K : PySem.W.Frag) (T : List (Addr × Str)) : Sp := fun vs H Q _ => ∃ (a : Addr) (ns : List Int), vs = [.ref a] ∧ SqL K H a (vn ns) ∧ PySj07.answers_asked ns = true ∧ Tabs T H ∧
  ∀ H' p, H' p = some (.lst (vn (PySj07.answers ns))) → Q (.ref p) H'
/-! ### scopes -/
theorem scOrder : FnScope ["order"] ["order"] (defScope sOrder) := ⟨rfl, rfl, rfl, by decide +kernel, rfl, by decide +kernel, by decide +kernel⟩
theorem scPlans : FnScope ["stock", "plans", "many", "longer", "plan", "taken"] ["stock"] (defScope sPlans) := ⟨rfl, rfl, rfl, by decide +kernel, rfl, by decide +kernel, by decide +kernel⟩
theorem scBest : FnScope ["rows", "best", "alike", "row"] ["rows"] (defScope sBest) := ⟨rfl, rfl, rfl, by decide +kernel, rfl, by decide +kernel, by decide +kernel⟩
theorem scInit : FnScope ["self"] ["self"] (defScope sInit) := ⟨rfl, rfl, rfl, by decide +kernel, rfl, by decide +kernel, by decide +kernel⟩
theorem scBegins : FnScope ["self"] ["self"] (defScope sBegins) := ⟨rfl, rfl, rfl, by decide +kernel, rfl, by decide +kernel, by decide +kernel⟩
theorem scKind : FnScope ["self", "size", "many"] ["self", "size", "many"] (defScope sKind) := ⟨rfl, rfl, rfl, by decide +kernel, rfl, by decide +kernel, by decide +kernel⟩
theorem scCheck : FnScope ["self", "order", "plan", "held"] ["self", "order", "plan"] (defScope sCheck) := ⟨rfl, rfl, rfl, by decide +kernel, rfl, by decide +kernel, by decide +kernel⟩
theorem scFull : FnScope ["self", "order"] ["self", "order"] (defScope sFull) := ⟨rfl, rfl, rfl, by decide +kernel, rfl, by decide +kernel, by decide +kernel⟩
theorem scFewest : FnScope ["self", "order", "row"] ["self", "order"] (defScope sFewest) := ⟨rfl, rfl, rfl, by decide +kernel, rfl, by decide +kernel, by decide +kernel⟩
theorem scNever : FnScope ["self", "most", "held", "missed", "number"] ["self", "most"] (defScope sNever) := ⟨rfl, rfl, rfl, by decide +kernel, rfl, by decide +kernel, by decide +kernel⟩
theorem scPlain : FnScope ["self", "order", "left", "plan", "number", "size"] ["self", "order"] (defScope sPlain) := ⟨rfl, rfl, rfl, by decide +kernel, rfl, by decide +kernel, by decide +kernel⟩
theorem scFill : FnScope ["self", "order", "rows", "plan", "room"] ["self", "order"] (defScope sFill) := ⟨rfl, rfl, rfl, by decide +kernel, rfl, by decide +kernel, by decide +kernel⟩
theorem scSome : FnScope ["self", "held", "plan"] ["self"] (defScope sSome) := ⟨rfl, rfl, rfl, by decide +kernel, rfl, by decide +kernel, by decide +kernel⟩
theorem scLargest : FnScope ["self"] ["self"] (defScope sLargest) := ⟨rfl, rfl, rfl, by decide +kernel, rfl, by decide +kernel, by decide +kernel⟩
theorem scCan : FnScope ["self", "plan", "taken", "many"] ["self", "plan"] (defScope sCan) := ⟨rfl, rfl, rfl, by decide +kernel, rfl, by decide +kernel, by decide +kernel⟩
theorem scHeld : FnScope ["self", "plan", "taken", "size"] ["self", "plan"] (defScope sHeld) := ⟨rfl, rfl, rfl, by decide +kernel, rfl, by decide +kernel, by decide +kernel⟩
theorem scTo : FnScope ["cellar", "call", "numbers"] ["cellar", "call", "numbers"] (defScope sTo) := ⟨rfl, rfl, rfl, by decide +kernel, rfl, by decide +kernel, by decide +kernel⟩
theorem scAns : FnScope ["calls", "cellar", "told", "place", "start", "end", "answer"] ["calls"] (defScope sAns) := ⟨rfl, rfl, rfl, by decide +kernel, rfl, by decide +kernel, by decide +kernel⟩
/-! ### small facts -/
theorem line_of {n : Nat} (h : n ≤ 16777216) : n ≤ sizeLine := by
  rw [sizeLine_eq]
  exact h
theorem line_lt {n : Nat} (h : n < 16777216) : n < sizeLine := by
  rw [sizeLine_eq]
  exact h
theorem line0 : 0 ≤ sizeLine := Nat.zero_le _
theorem line1 : 1 ≤ sizeLine := line_of (by decide)
theorem line2 : 2 ≤ sizeLine := line_of (by decide)
theorem line3 : 3 ≤ sizeLine := line_of (by decide)
/-- a number of the module's top -/
theorem pe_num {X : Cx} {x : Str} {n : Int} {t : Tok} {pos : Pos} (hg : Gl X x) (hm : X.mg x = some (.int n t)) (hd : (x == ("__debug__" : Str)) = false := by decide) : PE X (.Name x pos) (tC (.int n)) := pe_glob hg hm ⟨t, rfl⟩ hd
theorem vn_len (l : List Int) : (vn l).length = l.length := by rw [List.length_map]
theorem vn_at {l : List Int} {i : Nat} {z : Int} (h : l[i]? = some z) : (vn l)[i]? = some (V.int z) := by
  rw [List.getElem?_map, h]
  rfl
theorem vn_some {l : List Int} {i : Nat} {y : V} (h : (vn l)[i]? = some y) : ∃ z, l[i]? = some z ∧ y = V.int z := by
  rw [List.getElem?_map] at h
  cases e : l[i]? with
  | none =>
    rw [e] at h
    cases h
  | some z =>
    rw [e] at h
    exact ⟨z, rfl, (Option.some.inj h).symm⟩
theorem sq_of {K : PySem.W.Frag} {H : Hp} {a : Addr} {xs : List V} (h : H a = some (.lst xs)) : SqL K H a xs := .inl (.inl h)
theorem take_snoc {α : Type} {l : List α} {i : Nat} {x : α} (h : l[i]? = some x) : l.take (i + 1) = l.take i ++ [x] := by
  rw [List.take_add_one, h]
  rfl
end CD

/-! ## D1 -/
set_option Elab.async false
set_option linter.all false
set_option maxRecDepth 100000
set_option maxHeartbeats 4000000
namespace CD
open PySem PySem.Spec PyProof.Rows L2 LamX CR
open Sj07 (Cellar Call)
theorem row_ne {H : Hp} {bs : List Addr} {rows : List (List Int)} {l : Addr} (h : RowsAt H bs rows) (e : H l = some (.lst (bs.map V.ref))) : ∀ b ∈ bs, b ≠ l := fun b hb z => by
  obtain ⟨r, hr⟩ := rows_at h hb
  rw [z, e] at hr
  cases bs with
  | nil => cases hb
  | cons c cs =>
    cases r with
    | nil => cases hr
    | cons n ns => cases hr
theorem rows_put {H : Hp} {l : Addr} {o : HO} : ∀ {bs : List Addr} {rows : List (List Int)}, RowsAt H bs rows → (∀ b ∈ bs, b ≠ l) → RowsAt (upd H l o) bs rows
  | _, _, .nil, _ => .nil
  | _, _, .cons e t, ne => .cons ((upd_ne (ne _ (List.mem_cons_self ..))).trans e) (rows_put (show RowsAt H _ _ from t) fun b hb => ne b (List.mem_cons_of_mem _ hb))
theorem same_put {H H1 : Hp} {l : Addr} {o : HO} (s : Same H H1) (n : H l = none) : Same H (upd H1 l o) := fun b x e => by
  rw [upd_ne (ne_of_none e n)]
  exact s b x e
theorem rows_get {H : Hp} : ∀ {bs : List Addr} {rows : List (List Int)} {i : Nat} {b : Addr}, RowsAt H bs rows → bs[i]? = some b → ∃ r, rows[i]? = some r ∧ H b = some (.lst (vn r))
  | _, _, i, b, .nil, h => by simp at h
  | _, _, 0, b, .cons (b := r) e t, h => by
    have z := Option.some.inj h
    subst z
    exact ⟨r, rfl, e⟩
  | _, _, i + 1, b, .cons e t, h => rows_get (i := i) (show RowsAt H _ _ from t) (by simpa using h)
theorem ref_some {bs : List Addr} {i : Nat} {y : V} (h : (bs.map V.ref)[i]? = some y) : ∃ b, bs[i]? = some b ∧ y = V.ref b := by
  rw [List.getElem?_map] at h
  cases e : bs[i]? with
  | none =>
    rw [e] at h
    cases h
  | some z =>
    rw [e] at h
    exact ⟨z, rfl, (Option.some.inj h).symm⟩
section
variable {P : Program} {w : World} {K : PySem.W.Frag} {mg : Str → Option Value} {base : Heap} {C : Addr}
theorem ok_order {f : Addr} {fd : FuncData} (F : Fun K "is_order" "is_order" sOrder f fd) (T : Txt K mg C) : FnOk P w K mg base CX0 1 f fd ["order"] spOrder := by
  obtain ⟨t0, hO⟩ := T.order
  refine F.ok scOrder (fun vs H Q E h => ?_) (fun cdv A outer s H vs Q E hr h => ?_)
  · obtain ⟨z, rfl, _⟩ := h
    rfl
  · obtain ⟨z, rfl, q⟩ := h
    refine ⟨_, pss_one (ps_ret (pe_chain op_le op_le pe_int (pv 0) (pe_num (by rfl) hO))), ?_⟩
    refine ⟨.int z, rfl, 1, z, rfl, rfl, _, rfl, ite2 (fun h1 => ?_) fun h1 => ?_⟩
    · refine ⟨z, 1500, rfl, rfl, ?_⟩
      have h1 := of_decide_eq_true h1
      have e : decide (z ≤ 1500) = decide (1 ≤ z ∧ z ≤ 1500) := by
        by_cases h2 : z ≤ 1500
        · rw [decide_eq_true h2, decide_eq_true ⟨h1, h2⟩]
        · rw [decide_eq_false h2, decide_eq_false fun h => h2 h.2]
      rw [← e] at q
      exact q
    · have e : decide (1 ≤ z ∧ z ≤ 1500) = false := decide_eq_false fun h => h1 (decide_eq_true h.1)
      rw [e] at q
      exact q
theorem ok_plans {f : Addr} {fd : FuncData} (F : Fun K "plans_of" "plans_of" sPlans f fd) (T : Txt K mg C) : FnOk P w K mg base CX0 1 f fd ["stock"] (spPlans K) := by
  refine F.ok scPlans (fun vs H Q E h => ?_) (fun cdv A outer s H vs Q E hr h => ?_)
  · obtain ⟨a, st, rfl, _⟩ := h
    rfl
  · obtain ⟨a, st, rfl, hS, hl4, h6, q⟩ := h
    refine ⟨_, pss_cons (ps_set (i := 1) scPlans.nd rfl (.inl rfl) (pe_lst (pa_cons (pe_lst pa_nil) pa_nil)))
      (pss_cons (ps_for PassesOwn.never rfl (pi_list (pv 0)) (pg_name (i := 2) scPlans.nd rfl (.inl rfl))
        (pss_cons (ps_set (i := 3) scPlans.nd rfl (.inl rfl) (pe_lst pa_nil))
        (pss_cons (ps_for PassesOwn.never rfl (pi_list (pv 1)) (pg_name (i := 4) scPlans.nd rfl (.inl rfl))
          (pss_one (ps_for PassesOwn.never rfl (pi_range1 (by rfl) T.range (pa_cons (pe_op op_add (pv 2) pe_int) pa_nil)) (pg_name (i := 5) scPlans.nd rfl (.inl rfl))
            (pss_one (ps_expr (pe_bm PySem.F.plainAttrs_list PySem.F.slot_list_append PySem.F.type_list_append mt_append (pv 3) (pa_cons (pe_op op_cat (pv 4) (pe_lst (pa_cons (pv 5) pa_nil))) pa_nil)))))))
        (pss_one (ps_set (i := 1) scPlans.nd rfl (.inl rfl) (pv 3))))))
      (pss_one (ps_ret (pv 1)))), ?_⟩
    refine ⟨Nat.zero_le _, fun e0 ne => ⟨line1, fun p0 np => ?_⟩⟩
    have nep : e0 ≠ p0 := fun z => by
      rw [← z, upd_same] at np
      cases np
    have np0 : H p0 = none := by
      rw [upd_ne nep.symm] at np
      exact np
    have s0 : Same H (upd (upd H e0 (.lst [])) p0 (.lst [.ref e0])) := same_put (same_new ne) np0
    refine ⟨_, rfl, a, rfl, ⟨_, Same.seq s0 hS⟩, for_list (K := K) (a := a) (xs := vn (Sj07.ints st)) (fun i σ H' => ∃ (p : Addr) (bs : List Addr) (y2 y3 y4 y5 : Option V), σ = [some (.ref a), some (.ref p), y2, y3, y4, y5] ∧ Same H H' ∧ H' p = some (.lst (bs.map V.ref)) ∧ RowsAt H' bs ((CM.plansN (st.take i)).map Sj07.ints) ∧ ∀ b ∈ bs, H b = none)
      ⟨p0, [e0], none, none, none, none, rfl, s0, upd_same, Paired.cons ((upd_ne nep).trans upd_same) Paired.nil, fun b hb => by
        rw [List.mem_singleton.mp hb]
        exact ne⟩ (fun i σ H' _ ⟨_, _, _, _, _, _, _, s1, _⟩ => s1.seq hS) ?_ ?_⟩
    · rintro i y σ H' hi ⟨p, bs, y2, y3, y4, y5, rfl, s1, hp, hR, hF⟩
      obtain ⟨z, hz, rfl⟩ := vn_some hi
      obtain ⟨m, hm, rfl⟩ : ∃ m : Nat, st[i]? = some m ∧ z = (m : Int) := by
        rw [Sj07.ints, List.getElem?_map] at hz
        cases e : st[i]? with
        | none =>
          rw [e] at hz
          cases hz
        | some m =>
          rw [e] at hz
          exact ⟨m, rfl, (Option.some.inj hz).symm⟩
      have hm6 : m ≤ 6 := h6 m (List.mem_of_getElem? hm)
      have hlen : (CM.plansN (st.take i)).length ≤ 2401 := CM.plansN_len (fun x hx => h6 x (List.mem_of_mem_take hx)) (by rw [List.length_take]; omega)
      have hbl : bs.length = (CM.plansN (st.take i)).length := by
        have := Paired.length hR
        rw [List.length_map] at this
        exact this
      refine ⟨Nat.zero_le _, fun l nl => ?_⟩
      have s2 : Same H' (upd H' l (.lst [])) := same_new nl
      refine ⟨_, rfl, p, rfl, ⟨_, sq_of (s2 _ _ hp)⟩, for_list (K := K) (a := p) (xs := bs.map V.ref) (fun j σ H2 => ∃ (b2 : List Addr) (y4 y5 : Option V), σ = [some (.ref a), some (.ref p), some (.int (m : Int)), some (.ref l), y4, y5] ∧ Same H' H2 ∧ H2 l = some (.lst (b2.map V.ref)) ∧ RowsAt H2 b2 ((CM.ext ((CM.plansN (st.take i)).take j) m).map Sj07.ints) ∧ ∀ b ∈ b2, H b = none)
        ⟨[], _, _, rfl, s2, upd_same, Paired.nil, fun b hb => absurd hb (by simp)⟩ (fun j σ H2 _ ⟨_, _, _, _, s3, _⟩ => sq_of (s3 _ _ hp)) ?_ ?_⟩
      · rintro j y σ H2 hj ⟨b2, y4, y5, rfl, s3, hl2, hR2, hF2⟩
        obtain ⟨b, hb, rfl⟩ := ref_some hj
        obtain ⟨r0, hr0, hb0⟩ := rows_get hR hb
        obtain ⟨r, hr, rfl⟩ : ∃ r, (CM.plansN (st.take i))[j]? = some r ∧ r0 = Sj07.ints r := by
          rw [List.getElem?_map] at hr0
          cases e : (CM.plansN (st.take i))[j]? with
          | none =>
            rw [e] at hr0
            cases hr0
          | some r =>
            rw [e] at hr0
            exact ⟨r, rfl, (Option.some.inj hr0).symm⟩
        have hjl : j < (CM.plansN (st.take i)).length := (List.getElem?_eq_some_iff.mp hr).1
        have rl : r.length ≤ 4 := by
          rw [CM.plansN_mem (List.mem_of_getElem? hr), List.length_take]
          omega
        have exl : (CM.ext ((CM.plansN (st.take i)).take j) m).length ≤ 2401 * 7 := by
          rw [CM.ext_len, List.length_take]
          exact Nat.mul_le_mul (by omega) (by omega)
        refine ⟨_, rfl, m, 1, rfl, rfl, (m : Int) + 1, rfl, by omega, by omega, for_range (lo := 0) (n := m + 1) (fun t σ H3 => ∃ (b2 : List Addr) (y5 : Option V), σ = [some (.ref a), some (.ref p), some (.int (m : Int)), some (.ref l), some (.ref b), y5] ∧ Same H' H3 ∧ H3 l = some (.lst (b2.map V.ref)) ∧ RowsAt H3 b2 ((CM.ext ((CM.plansN (st.take i)).take j) m ++ (List.range t).map fun k => r ++ [k]).map Sj07.ints) ∧ ∀ b ∈ b2, H b = none)
          ⟨b2, y5, rfl, s3, hl2, by rw [List.range_zero, List.map_nil, List.append_nil]; exact hR2, hF2⟩ ?_ ?_⟩
        · rintro t σ H3 ht ⟨b3, y5, rfl, s4, hl3, hR3, hF3⟩
          have hb3 : b3.length ≤ 2401 * 7 + 7 := by
            have := Paired.length hR3
            rw [List.length_map, List.length_append, List.length_map, List.length_range] at this
            omega
          have e3 := s4 _ _ hb0
          refine ⟨.ref l, rfl, .inl ⟨rfl, _, .inl (.inl hl3)⟩, .ref b, rfl, .int (0 + (t : Int)), rfl, line1, fun q1 nq => ?_⟩
          have n1 : ∀ {d : Addr} {o : HO}, H3 d = some o → d ≠ q1 := fun e => ne_of_none e nq
          refine ⟨b, q1, vn (Sj07.ints r), [.int (0 + (t : Int))], rfl, rfl, (upd_ne (n1 e3)).trans e3, upd_same, line_of (by rw [vn_len, CM.ints_len]; show r.length + 1 ≤ _; omega), fun q2 nq2 => ?_⟩
          have n2 : ∀ {d : Addr} {o : HO}, H3 d = some o → d ≠ q2 := fun e => ne_of_none ((upd_ne (n1 e)).trans e) nq2
          have hl4 : (upd (upd H3 q1 (.lst [.int (0 + (t : Int))])) q2 (.lst (vn (Sj07.ints r) ++ [.int (0 + (t : Int))]))) l = some (.lst (b3.map V.ref)) := (upd_ne (n2 hl3)).trans ((upd_ne (n1 hl3)).trans hl3)
          refine ⟨l, _, _, rfl, rfl, hl4, line_lt (by rw [List.length_map]; omega), ?_⟩
          refine ⟨b3 ++ [q2], _, rfl, ?_, ?_, ?_, fun d hd => ?_⟩
          · exact same_put (fun d o e => (upd_ne (n2 (s4 _ _ e))).trans ((upd_ne (n1 (s4 _ _ e))).trans (s4 _ _ e))) nl
          · rw [List.map_append]
            exact upd_same
          · have nq2l : q2 ≠ l := (n2 hl3).symm
            have el : (List.range (t + 1)).map (fun k => r ++ [k]) = (List.range t).map (fun k => r ++ [k]) ++ [r ++ [t]] := by
              rw [List.range_succ, List.map_append]
              rfl
            rw [el, ← List.append_assoc, List.map_append]
            refine Paired.snoc (rows_put (Paired.mapP hR3 fun d r' e => (upd_ne (n2 e)).trans ((upd_ne (n1 e)).trans e)) (row_ne hR3 hl3)) ?_
            refine (upd_ne nq2l).trans (upd_same.trans ?_)
            simp [Sj07.ints, vn]
          · rcases List.mem_append.mp hd with z | z
            · exact hF3 d z
            · rw [List.mem_singleton.mp z]
              exact Same.free (s1.trans s4) (NdefX.upd_none nq2)
        · rintro σ H3 ⟨b3, y5, rfl, s4, hl3, hR3, hF3⟩
          refine ⟨b3, _, _, rfl, s4, hl3, ?_, hF3⟩
          rw [take_snoc hr]
          have e : CM.ext ((CM.plansN (st.take i)).take j ++ [r]) m = CM.ext ((CM.plansN (st.take i)).take j) m ++ (List.range (m + 1)).map fun k => r ++ [k] := by
            unfold CM.ext
            rw [List.flatMap_append]
            simp
          rw [e]
          exact hR3
      · rintro σ H2 ⟨b2, y4, y5, rfl, s3, hl2, hR2, hF2⟩
        rw [List.length_map, hbl, List.take_length] at hR2
        refine ⟨.ref l, rfl, l, b2, _, _, _, _, rfl, s1.trans s3, hl2, ?_, hF2⟩
        rw [take_snoc hm, CM.plansN_snoc]
        exact hR2
    · rintro σ H' ⟨p, bs, y2, y3, y4, y5, rfl, s1, hp, hR, hF⟩
      rw [vn_len, CM.ints_len, List.take_length] at hR
      exact ⟨_, rfl, q H' p bs s1 hp hR hF⟩
end
end CD

/-! ## D2 -/
set_option Elab.async false
set_option linter.all false
set_option maxRecDepth 100000
set_option maxHeartbeats 4000000
namespace CD
open PySem PySem.Spec PyProof.Rows L2 LamX CR
open Sj07 (Cellar Call)
theorem ints_some {l : List Nat} {i : Nat} {y : V} (h : (vn (Sj07.ints l))[i]? = some y) : ∃ n : Nat, l[i]? = some n ∧ y = V.int (n : Int) := by
  obtain ⟨z, hz, rfl⟩ := vn_some h
  rw [Sj07.ints, List.getElem?_map] at hz
  cases e : l[i]? with
  | none =>
    rw [e] at hz
    cases hz
  | some m =>
    rw [e] at hz
    exact ⟨m, rfl, congrArg V.int (Option.some.inj hz).symm⟩
theorem vn_snoc (l : List Int) (z : Int) : vn (l ++ [z]) = vn l ++ [V.int z] := by rw [vn, List.map_append] <;> rfl
theorem zip_take {α β γ : Type} (f : α × β → γ) {l : List α} {s : List β} {i : Nat} {a : α} {b : β} (h1 : l[i]? = some a) (h2 : s[i]? = some b) : ((l.zip s).map f).take (i + 1) = ((l.zip s).map f).take i ++ [f (a, b)] := by
  have e : (l.zip s)[i]? = some (a, b) := by
    rw [List.getElem?_zip_eq_some]
    exact ⟨h1, h2⟩
  exact take_snoc (by
    rw [List.getElem?_map, e]
    rfl)
section
variable {P : Program} {w : World} {K : PySem.W.Frag} {mg : Str → Option Value} {base : Heap} {C : Addr}
theorem ok_held {f : Addr} {fd : FuncData} (F : Fun K "held_by" "Cellar.held_by" sHeld f fd) (T : Txt K mg C) : FnOk P w K mg base CX0 1 f fd ["self", "plan"] (spHeld K C) := by
  refine F.ok scHeld (fun vs H Q E h => ?_) (fun cdv A outer s H vs Q E hr h => ?_)
  · obtain ⟨x, dx, a1, a2, p, c, l, rfl, _⟩ := h
    rfl
  · obtain ⟨x, dx, a1, a2, p, c, l, rfl, hC, hW, hS, hl, q⟩ := h
    refine ⟨_, pss_one (ps_ret (pe_callB (cr_sum rfl) (by rfl) T.sum (by decide +kernel) (pa_cons
      (pe_lc (own := [("taken", 2), ("size", 3)]) (g := gTup K 2 (gCons (gName 2) (gCons (gName 3) gNil))) (tt := tYes) rfl scHeld.nd
        (pi_zip (by rfl) T.zip (pa_cons (pv 1) (pa_cons (pe_fld (pv 0) rfl) pa_nil)))
        (blkOk_by (N := ["self", "plan", "taken", "size"]) (sc := defScope sHeld) (by decide +kernel))
        (fun _ _ _ _ _ => pg_tup rfl (pgs_cons (pg_name (i := 2) scHeld.nd rfl (Or.inl rfl) (Or.inr rfl)) (pgs_cons (pg_name (i := 3) scHeld.nd rfl (Or.inl rfl) (Or.inr rfl)) pgs_nil)))
        (fun _ _ _ _ _ => pts_nil) (fun _ _ _ _ _ => pe_op op_mul (pv 2) (pv 3))) pa_nil))), ?_⟩
    have hlen : (vn (Sj07.ints l)).length ≤ 6 := by
      rw [vn_len, CM.ints_len]
      exact hl
    refine ⟨.ref p, rfl, .ref x, rfl, x, C, dx, _, _, rfl, hC.ins, T.cl, T.nZ, cF_sizes a1 a2, p, a1, vn (Sj07.ints l), vn (CM.szs c), rfl, hS, sq_of hC.szs, fun D nD => ?_⟩
    refine lc_it (walk_zip (K := K) (a := p) (b := a1) (xs := vn (Sj07.ints l)) (ys := vn (CM.szs c)) rfl) (fun i H' => Same H H' ∧ H' D = some (.lst (vn ((((Sj07.ints l).zip (CM.szs c)).map fun z => z.1 * z.2).take i))))
      ⟨same_new nD, upd_same⟩ (fun i H' _ g => ⟨g.1.seq hS, sq_of (g.1 _ _ hC.szs)⟩) ?_ ?_
    · rintro i v H' H2 hi ⟨s1, hD⟩ ⟨t, v1, v2, rfl, nt, rfl, e1, e2⟩
      obtain ⟨n, hn, rfl⟩ := ints_some e1
      obtain ⟨m, hm, rfl⟩ := vn_some e2
      have hn1 : (Sj07.ints l)[i]? = some (n : Int) := by
        rw [Sj07.ints, List.getElem?_map, hn]
        rfl
      have hsz : (-(2 ^ 64) : Int) < m ∧ m < 2 ^ 64 := by
        rw [CM.szs, List.getElem?_map] at hm
        cases e : c[i]? with
        | none =>
          rw [e] at hm
          cases hm
        | some k =>
          rw [e] at hm
          have hk := hW.ok k (List.mem_of_getElem? e)
          have hm2 : ((k.size : Nat) : Int) = m := Option.some.inj hm
          omega
      refine ⟨t, [.int (n : Int), .int m], rfl, (.inl (.inl upd_same)), rfl, _, _, rfl, _, _, rfl, rfl, rfl, ?_⟩
      refine ⟨_, rfl, _, rfl, _, _, rfl, rfl, .inr hsz, vn ((((Sj07.ints l).zip (CM.szs c)).map fun z => z.1 * z.2).take i), (upd_ne (ne_of_none hD nt)).trans hD, line_lt ?_, ?_, ?_⟩
      · rw [vn_len, List.length_take]
        omega
      · exact same_put (fun d o e => (upd_ne (ne_of_none (s1 _ _ e) nt)).trans (s1 _ _ e)) nD
      · rw [zip_take _ hn1 hm, vn_snoc]
        exact upd_same
    · rintro H' ⟨s1, hD⟩
      have e : ((((Sj07.ints l).zip (CM.szs c)).map fun z => z.1 * z.2).take (min (vn (Sj07.ints l)).length (vn (CM.szs c)).length)) = (((Sj07.ints l).zip (CM.szs c)).map fun z => z.1 * z.2) := List.take_of_length_le (by
        rw [List.length_map, List.length_zip, vn_len, vn_len]
        exact Nat.le_refl _)
      rw [e] at hD
      refine ⟨D, _, rfl, sq_of hD, ?_⟩
      have eq := CM.held_eq c l
      unfold CM.heldI at eq
      rw [eq]
      exact q H' s1
theorem ok_can {f : Addr} {fd : FuncData} (F : Fun K "can_take" "Cellar.can_take" sCan f fd) (T : Txt K mg C) : FnOk P w K mg base CX0 1 f fd ["self", "plan"] (spCan K C) := by
  refine F.ok scCan (fun vs H Q E h => ?_) (fun cdv A outer s H vs Q E hr h => ?_)
  · obtain ⟨x, dx, a1, a2, p, c, l, rfl, _⟩ := h
    rfl
  · obtain ⟨x, dx, a1, a2, p, c, l, rfl, hC, hW, hS, hl, q⟩ := h
    refine ⟨_, pss_cons (ps_if (pt_cmpR op_ne (pe_callB call_len_seq (by rfl) T.len PySem.boot_len (pa_cons (pv 1) pa_nil)) (pe_callB call_len_seq (by rfl) T.len PySem.boot_len (pa_cons (pe_fld (pv 0) rfl) pa_nil)) (nomark _)) (pss_one (ps_ret pe_bl)) pss_nil)
      (pss_one (ps_ret (pe_callB (cr_all rfl) (by rfl) T.all (by decide +kernel) (pa_cons
      (pe_lc (own := [("taken", 2), ("many", 3)]) (g := gTup K 2 (gCons (gName 2) (gCons (gName 3) gNil))) (tt := tYes) rfl scCan.nd
        (pi_zip (by rfl) T.zip (pa_cons (pv 1) (pa_cons (pe_fld (pv 0) rfl) pa_nil)))
        (blkOk_by (N := ["self", "plan", "taken", "many"]) (sc := defScope sCan) (by decide +kernel))
        (fun _ _ _ _ _ => pg_tup rfl (pgs_cons (pg_name (i := 2) scCan.nd rfl (Or.inl rfl) (Or.inr rfl)) (pgs_cons (pg_name (i := 3) scCan.nd rfl (Or.inl rfl) (Or.inr rfl)) pgs_nil)))
        (fun _ _ _ _ _ => pts_nil) (fun _ _ _ _ _ => pe_cmpR op_le (pv 2) (pv 3) (nomark _))) pa_nil)))), ?_⟩
    have hlen : (vn (Sj07.ints l)).length = l.length := by
      rw [vn_len, CM.ints_len]
    have hlc : (vn (CM.stk c)).length = c.length := by
      rw [vn_len, CM.stk_len]
    refine ⟨.ref p, rfl, p, vn (Sj07.ints l), rfl, .inl hS, .ref x, rfl, x, C, dx, _, _, rfl, hC.ins, T.cl, T.nS, cF_stock a1 a2, a2, vn (CM.stk c), rfl, .inl (sq_of hC.stk), rfl, _, rfl, ?_⟩
    rw [hlen, hlc]
    by_cases hne : l.length = c.length
    · refine iteNS (congrArg V.int (congrArg Int.ofNat hne)) ?_
      refine ⟨.ref p, rfl, .ref x, rfl, x, C, dx, _, _, rfl, hC.ins, T.cl, T.nS, cF_stock a1 a2, p, a2, vn (Sj07.ints l), vn (CM.stk c), rfl, hS, sq_of hC.stk, fun D nD => ?_⟩
      refine lc_it (walk_zip (K := K) (a := p) (b := a2) (xs := vn (Sj07.ints l)) (ys := vn (CM.stk c)) rfl) (fun i H' => Same H H' ∧ H' D = some (.lst (((((Sj07.ints l).zip (CM.stk c)).map fun z => decide (z.1 ≤ z.2)).take i).map V.bl)))
        ⟨same_new nD, upd_same⟩ (fun i H' _ g => ⟨g.1.seq hS, sq_of (g.1 _ _ hC.stk)⟩) ?_ ?_
      · rintro i v H' H2 hi ⟨s1, hD⟩ ⟨t, v1, v2, rfl, nt, rfl, e1, e2⟩
        obtain ⟨n, hn, rfl⟩ := ints_some e1
        obtain ⟨m, hm, rfl⟩ := vn_some e2
        have hn1 : (Sj07.ints l)[i]? = some (n : Int) := by
          rw [Sj07.ints, List.getElem?_map, hn]
          rfl
        refine ⟨t, [.int (n : Int), .int m], rfl, (.inl (.inl upd_same)), rfl, _, _, rfl, _, _, rfl, rfl, rfl, ?_⟩
        refine ⟨_, rfl, _, rfl, _, _, rfl, rfl, _, (upd_ne (ne_of_none hD nt)).trans hD, line_lt ?_, ?_, ?_⟩
        · rw [List.length_map, List.length_take]
          omega
        · exact same_put (fun d o e => (upd_ne (ne_of_none (s1 _ _ e) nt)).trans (s1 _ _ e)) nD
        · rw [zip_take _ hn1 hm, List.map_append]
          exact upd_same
      · rintro H' ⟨s1, hD⟩
        have e : ((((Sj07.ints l).zip (CM.stk c)).map fun z => decide (z.1 ≤ z.2)).take (min (vn (Sj07.ints l)).length (vn (CM.stk c)).length)) = (((Sj07.ints l).zip (CM.stk c)).map fun z => decide (z.1 ≤ z.2)) := List.take_of_length_le (by
          rw [List.length_map, List.length_zip, vn_len, vn_len]
          exact Nat.le_refl _)
        rw [e] at hD
        refine ⟨D, _, rfl, sq_of hD, ?_⟩
        have eq := CM.can_eq c l hne
        have e2 : ((((Sj07.ints l).zip (CM.stk c)).map fun z => decide (z.1 ≤ z.2)).all id) = CM.canI (Sj07.ints l) (CM.stk c) := by
          unfold CM.canI
          rw [List.all_map]
          rfl
        rw [e2, eq]
        exact q H' s1
    · have hd : decide (V.int (l.length : Int) = V.int (c.length : Int)) = false := decide_eq_false fun z => hne (Int.ofNat.inj (V.int.inj z))
      have := q H (Same.refl H)
      rw [CM.can_ne hne] at this
      exact (by
        show if (!decide (V.int (l.length : Int) = V.int (c.length : Int))) = true then _ else _
        rw [hd]
        exact iteT this)
end
end CD

/-! ## D3 -/
set_option Elab.async false
set_option linter.all false
set_option maxRecDepth 100000
set_option maxHeartbeats 4000000
namespace CD
open PySem PySem.Spec PyProof.Rows L2 LamX CR
open Sj07 (Cellar Call)
theorem cut_to (xs : List V) (k : Nat) : cutV xs none (some (k : Int)) = xs.take k := by
  unfold cutV
  rw [HT.sIx_none, HT.sIx_nat, List.drop_zero, Nat.sub_zero]
  rcases Nat.le_total k xs.length with h | h
  · rw [Nat.min_eq_left h]
  · rw [Nat.min_eq_right h, List.take_of_length_le (Nat.le_refl _), List.take_of_length_le h]
theorem cut_from (xs : List V) (k : Nat) : cutV xs (some (k : Int)) none = xs.drop k := by
  unfold cutV
  rw [HT.sIx_none, HT.sIx_nat]
  rcases Nat.le_total k xs.length with h | h
  · rw [Nat.min_eq_left h]
    exact List.take_of_length_le (by rw [List.length_drop]; omega)
  · rw [Nat.min_eq_right h, List.drop_of_length_le (Nat.le_refl _), List.drop_of_length_le h, List.take_nil]
theorem cut_mid (xs : List V) {i j : Nat} (h1 : i ≤ j) (h2 : j ≤ xs.length) : cutV xs (some (i : Int)) (some (j : Int)) = (xs.drop i).take (j - i) := by
  unfold cutV
  rw [HT.sIx_nat, HT.sIx_nat, Nat.min_eq_left h2, Nat.min_eq_left (Nat.le_trans h1 h2)]
theorem vn_app (a b : List Int) : vn (a ++ b) = vn a ++ vn b := List.map_append
theorem vn_take (l : List Int) (k : Nat) : (vn l).take k = vn (l.take k) := by rw [vn, vn, List.map_take]
theorem vn_drop (l : List Int) (k : Nat) : (vn l).drop k = vn (l.drop k) := by rw [vn, vn, List.map_drop]
theorem dp_ints {K : PySem.W.Frag} {H : Hp} : ∀ l : List Int, DpAll K H (vn l) (l.map PyData.int)
  | [] => .nil
  | n :: l => .cons (.int n) (dp_ints l)
theorem eqv_ints : ∀ a b : List Int, PyData.eqvAll (a.map PyData.int) (b.map PyData.int) = decide (a = b)
  | [], [] => by simp [PyData.eqvAll]
  | [], b :: bs => by simp [PyData.eqvAll]
  | a :: as, [] => by simp [PyData.eqvAll]
  | a :: as, b :: bs => by
    rw [List.map_cons, List.map_cons, PyData.eqvAll, eqv_ints as bs]
    by_cases h1 : a = b <;> by_cases h2 : as = bs <;> simp [PyData.eqv, h1, h2]
theorem eqv_rows (a b : List Int) : PyData.eqv (rowD a) (rowD b) = decide (a = b) := by
  unfold rowD
  rw [PyData.eqv]
  exact eqv_ints a b
theorem lay_ints : ∀ a : List Int, PyData.canLayAll0 (a.map PyData.int) = true
  | [] => by simp [PyData.canLayAll0]
  | a :: as => by
    rw [List.map_cons, PyData.canLayAll0, lay_ints as]
    simp [PyData.canLay0]
theorem shaped_rows (a : List Int) : SeqAt.shaped (rowD a) = true := by
  have h1 := lay_ints a
  have h2 := depth_rows [a]
  unfold SeqAt.shaped
  rw [Bool.and_eq_true]
  refine ⟨?_, ?_⟩
  · unfold rowD
    rw [PyData.canLay0]
    exact h1
  · rw [List.map_cons, List.map_nil, PyData.depthAll] at h2
    exact decide_eq_true (by omega)
section
variable {P : Program} {w : World} {K : PySem.W.Frag} {mg : Str → Option Value} {base : Heap} {C : Addr}
theorem ok_best {f : Addr} {fd : FuncData} (F : Fun K "best_of" "best_of" sBest f fd) (T : Txt K mg C) : FnOk P w K mg base CX0 1 f fd ["rows"] (spBest K) := by
  refine F.ok scBest (fun vs H Q E h => ?_) (fun cdv A outer s H vs Q E hr h => ?_)
  · obtain ⟨a, bs, rows, rfl, _⟩ := h
    rfl
  · obtain ⟨a, bs, rows, rfl, hS, hR, hlen, hrl, q⟩ := h
    refine ⟨_, pss_cons (ps_if (pt_not (pt_truth (pv 0) (by intro _; rfl))) (pss_one (ps_ret (pe_lst (pa_cons (pe_un un_neg pe_int) pa_nil)))) pss_nil)
      (pss_cons (ps_set (i := 1) scBest.nd rfl (.inr rfl) (pe_callB (cr_minRows rfl hr.units) (by rfl) T.min (by decide +kernel) (pa_cons (pv 0) pa_nil)))
      (pss_cons (ps_setLc (i := 2) (own := [("row", 3)]) (g := gName 3) (tt := tTest (tOp (rEqD K) (tSl (rSlL K) (tVar 3) tNoPart (tPart (tC (.int 2)))) (tSl (rSlL K) (tVar 1) tNoPart (tPart (tC (.int 2)))))) (te := tVar 3) rfl scBest.nd rfl rfl (sw_true rfl rfl rfl (by decide +kernel)) (pi_list (pv 0))
          (blkOk_by (N := ["rows", "best", "alike", "row"]) (sc := defScope sBest) (by decide +kernel)) (fun _ _ _ _ _ => pg_name (i := 3) scBest.nd rfl (Or.inl rfl) (Or.inr rfl))
          (fun _ _ _ _ _ => pts_one (pt_cmpR (op_eqD hr.units) (pe_slice sl_list (pv 3) po_none (po_some pe_int)) (pe_slice sl_list (pv 1) po_none (po_some pe_int)) (nomark _))) (fun _ _ _ _ _ => pv 3))
      (pss_one (ps_ret (pe_op op_cat (pe_op op_cat (pe_slice sl_list (pv 1) po_none (po_some pe_int)) (pe_lst (pa_cons (pe_callB call_len_seq (by rfl) T.len PySem.boot_len (pa_cons (pv 2) pa_nil)) pa_nil))) (pe_slice sl_list (pv 1) (po_some pe_int) po_none)))))), ?_⟩
    have hbl : bs.length = rows.length := Paired.length hR
    refine ⟨.ref a, rfl, _, .inl ⟨_, hS, rfl⟩, ?_⟩
    cases rows with
    | nil =>
      have e0 : bs = [] := List.eq_nil_of_length_eq_zero hbl
      subst e0
      refine iteT ⟨6, rfl, line1, fun p np => q _ p (same_new np) np upd_same⟩
    | cons r rs =>
      obtain ⟨b0, br, e0⟩ : ∃ b0 br, bs = b0 :: br := by
        cases bs with
        | nil => cases hbl
        | cons b0 br => exact ⟨b0, br, rfl⟩
      subst e0
      refine iteF ?_
      refine ⟨.ref a, rfl, a, b0 :: br, r, rs, rfl, hS, hR, fun b hb => ?_⟩
      have hml : (CM.minI r rs).length ≤ 100000 := hrl _ (CM.minI_mem rs r)
      refine ⟨.ref a, rfl, a, rfl, ⟨_, hS⟩, fun D nD => ?_⟩
      refine lc_list (K := K) (a := a) (xs := (b0 :: br).map V.ref) (fun i H' => Same H H' ∧ ∃ b2 : List Addr, H' D = some (.lst (b2.map V.ref)) ∧ b2.length = (((r :: rs).take i).filter fun x => decide (x.take 2 = (CM.minI r rs).take 2)).length)
        ⟨same_new nD, [], upd_same, rfl⟩ (fun i H' _ g => g.1.seq hS) ?_ ?_
      · rintro i y H' hi ⟨s1, b2, hD, hl2⟩
        obtain ⟨bi, hbi, rfl⟩ := ref_some hi
        obtain ⟨ri, hri, hb1⟩ := rows_get hR hbi
        refine ⟨rfl, .ref bi, rfl, 2, rfl, bi, vn ri, rfl, sq_of (s1 _ _ hb1), fun p1 n1 => ?_⟩
        have s2 := same_new (o := .lst (cutV (vn ri) none (some 2))) n1
        refine ⟨.ref b, rfl, 2, rfl, b, vn (CM.minI r rs), rfl, sq_of (s2 _ _ (s1 _ _ hb)), fun p2 n2 => ?_⟩
        have s3 := same_new (o := .lst (cutV (vn (CM.minI r rs)) none (some 2))) n2
        have e1 : cutV (vn ri) none (some 2) = vn (ri.take 2) := (cut_to (vn ri) 2).trans (vn_take ri 2)
        have e2 : cutV (vn (CM.minI r rs)) none (some 2) = vn ((CM.minI r rs).take 2) := (cut_to _ 2).trans (vn_take _ 2)
        refine ⟨rowD (ri.take 2), rowD ((CM.minI r rs).take 2), .lst (sq_of (s3 _ _ (upd_same.trans (by rw [e1])))) (dp_ints _), .lst (sq_of (upd_same.trans (by rw [e2]))) (dp_ints _), shaped_rows _, shaped_rows _, _, rfl, ?_⟩
        rw [eqv_rows]
        have sD : Same H (upd (upd H' p1 (.lst (cutV (vn ri) none (some 2)))) p2 (.lst (cutV (vn (CM.minI r rs)) none (some 2)))) := s1.trans (s2.trans s3)
        have hD2 := s3 _ _ (s2 _ _ hD)
        refine ite2 (fun hc => ?_) fun hc => ?_
        · refine ⟨.ref bi, rfl, _, hD2, line_lt ?_, same_put sD nD, b2 ++ [bi], ?_, ?_⟩
          · rw [List.length_map, hl2]
            have := List.length_filter_le (fun x => decide (x.take 2 = (CM.minI r rs).take 2)) ((r :: rs).take i)
            rw [List.length_take] at this
            omega
          · rw [List.map_append]
            exact upd_same
          · rw [take_snoc hri, List.filter_append, List.length_append, List.length_append, hl2, List.filter_cons, if_pos hc]
            rfl
        · refine ⟨sD, b2, hD2, ?_⟩
          rw [take_snoc hri, List.filter_append, List.length_append, hl2, List.filter_cons, if_neg hc]
          rfl
      · rintro H' ⟨s1, b2, hD, hl2⟩
        rw [List.length_map, hbl, List.take_length] at hl2
        have hb' := s1 _ _ hb
        refine ⟨.ref b, rfl, 2, rfl, b, vn (CM.minI r rs), rfl, sq_of hb', fun p1 n1 => ?_⟩
        have s2 := same_new (o := .lst (cutV (vn (CM.minI r rs)) none (some 2))) n1
        refine ⟨.ref D, rfl, D, _, rfl, .inl (sq_of (s2 _ _ hD)), line1, fun p2 n2 => ?_⟩
        have s3 := same_new (o := .lst [V.int ((b2.map V.ref).length : Int)]) n2
        have e1 : cutV (vn (CM.minI r rs)) none (some 2) = vn ((CM.minI r rs).take 2) := (cut_to _ 2).trans (vn_take _ 2)
        have e2 : cutV (vn (CM.minI r rs)) (some 2) none = vn ((CM.minI r rs).drop 2) := (cut_from _ 2).trans (vn_drop _ 2)
        refine ⟨p1, p2, _, _, rfl, rfl, s3 _ _ upd_same, upd_same, line_of ?_, fun p3 n3 => ?_⟩
        · rw [e1, vn_len, List.length_take]
          show min 2 _ + 1 ≤ _
          omega
        have s4 := same_new (o := .lst (cutV (vn (CM.minI r rs)) none (some 2) ++ [V.int ((b2.map V.ref).length : Int)])) n3
        have sA := s2.trans (s3.trans s4)
        refine ⟨.ref b, rfl, 2, rfl, b, vn (CM.minI r rs), rfl, sq_of (sA _ _ hb'), fun p4 n4 => ?_⟩
        have s5 := same_new (o := .lst (cutV (vn (CM.minI r rs)) (some 2) none)) n4
        refine ⟨p3, p4, _, _, rfl, rfl, s5 _ _ upd_same, upd_same, line_of ?_, fun p5 n5 => ?_⟩
        · rw [e1, e2, List.length_append, vn_len, vn_len, List.length_take, List.length_drop]
          show min 2 _ + 1 + _ ≤ _
          omega
        refine q _ p5 (s1.trans (sA.trans (s5.trans (same_new n5)))) (Same.free (s1.trans (sA.trans s5)) n5) (upd_same.trans ?_)
        rw [e1, e2, List.length_map, hl2]
        show some (HO.lst (vn _ ++ vn [_] ++ vn _)) = _
        rw [← vn_app, ← vn_app]
        rfl
end
end CD

/-! ## D4 -/
set_option Elab.async false
set_option linter.all false
set_option maxRecDepth 100000
set_option maxHeartbeats 4000000
namespace CD
open PySem PySem.Spec PyProof.Rows L2 LamX CR
open Sj07 (Cellar Call)
/-- the rows of the first plans -/
def fillOf (c : Cellar) (v : Nat) (ps : List (List Nat)) : List (List Int) := (ps.filter fun l => decide ((0 : Int) ≤ (Sj07.holds c l : Int) - v)).map fun l => ((Sj07.holds c l : Int) - v) :: ((l.sum : Nat) : Int) :: Sj07.ints l
theorem fillOf_len (c : Cellar) (v : Nat) (ps : List (List Nat)) : (fillOf c v ps).length ≤ ps.length := by
  unfold fillOf
  rw [List.length_map]
  exact List.length_filter_le _ _
theorem stk_ints (c : Cellar) : CM.stk c = Sj07.ints (c.map (·.stock)) := by
  unfold CM.stk Sj07.ints
  rw [List.map_map]
  rfl
theorem plan_len {c : Cellar} {l : List Nat} (h : l ∈ Sj07.plans c) : l.length = c.length := CM.can_len c l (CM.can_plans c l h)
section
variable {P : Program} {w : World} {K : PySem.W.Frag} {mg : Str → Option Value} {base : Heap} {C : Addr}
theorem ok_fill {f fP fH : Addr} {fd fdP fdH : FuncData} (F : Fun K "filling_rows" "Cellar.filling_rows" sFill f fd) (T : Txt K mg C)
    (FP : Fun K "plans_of" "plans_of" sPlans fP fdP) (bP : Binds K fdP ["stock"] []) (gP : mg "plans_of" = some (.ref fP)) (FH : Fun K "held_by" "Cellar.held_by" sHeld fH fdH) (bH : Binds K fdH ["self", "plan"] []) (mH : Meth K C "held_by" fH) :
    FnOk P w K mg base CX0 2 f fd ["self", "order"] (spFill C) := by
  have GP : FnOk P w K mg base CX0 1 fP fdP ["stock"] (spPlans K) := ok_plans FP T
  have GH : FnOk P w K mg base CX0 1 fH fdH ["self", "plan"] (spHeld K C) := ok_held FH T
  refine F.ok scFill (fun vs H Q E h => ?_) (fun cdv A outer s H vs Q E hr h => ?_)
  · obtain ⟨x, dx, a1, a2, c, v, rfl, _⟩ := h
    rfl
  · obtain ⟨x, dx, a1, a2, c, v, rfl, hC, hW, q⟩ := h
    refine ⟨_, pss_cons (ps_set (i := 2) scFill.nd rfl (.inl rfl) (pe_lst pa_nil))
      (pss_cons (ps_for PassesOwn.never rfl (pi_list (pe_call GP hr (by rfl) gP FP.kp bP .nil pass0 (pa_cons (pe_fld (pv 0) rfl) pa_nil))) (pg_name (i := 3) scFill.nd rfl (.inl rfl))
        (pss_cons (ps_set (i := 4) scFill.nd rfl (.inl rfl) (pe_op op_sub (pe_meth (pv 0) T.cl mH GH hr bH .nil pass0 (pa_cons (pv 3) pa_nil)) (pv 1)))
        (pss_one (ps_if (pt_cmpR op_ge (pv 4) pe_int (nomark _))
          (pss_one (ps_expr (pe_bm PySem.F.plainAttrs_list PySem.F.slot_list_append PySem.F.type_list_append mt_append (pv 2) (pa_cons (pe_op op_cat (pe_lst (pa_cons (pv 4) (pa_cons (pe_callB (cr_sum rfl) (by rfl) T.sum (by decide +kernel) (pa_cons (pv 3) pa_nil)) pa_nil))) (pv 3)) pa_nil)))) pss_nil))))
      (pss_one (ps_ret (pv 2)))), ?_⟩
    refine ⟨Nat.zero_le _, fun l nl => ?_⟩
    have s0 : Same H (upd H l (.lst [])) := same_new nl
    have hC0 := hC.same s0
    refine ⟨.ref x, rfl, x, C, dx, _, _, rfl, hC0.ins, T.cl, T.nS, cF_stock a1 a2, a2, c.map (·.stock), rfl, sq_of (hC0.stk.trans (by rw [stk_ints])), by rw [List.length_map]; exact hW.len, fun m hm => ?_, fun H1 p bs s1 hp hR hF => ?_⟩
    · obtain ⟨k, hk, e⟩ := List.mem_map.mp hm
      rw [← e]
      exact (hW.ok k hk).2.2
    rw [CM.plansN_eq] at hR
    have hbl : bs.length = (Sj07.plans c).length := by
      have := Paired.length hR
      rw [List.length_map] at this
      exact this
    have hpl := CM.plans_len hW
    refine ⟨p, rfl, ⟨_, sq_of hp⟩, for_list (K := K) (a := p) (xs := bs.map V.ref) (fun i σ H' => ∃ (b2 : List Addr) (y3 y4 : Option V), σ = [some (.ref x), some (.int (v : Int)), some (.ref l), y3, y4] ∧ Same H H' ∧ H' p = some (.lst (bs.map V.ref)) ∧ RowsAt H' bs ((Sj07.plans c).map Sj07.ints) ∧ H' l = some (.lst (b2.map V.ref)) ∧ l ≠ p ∧ (∀ b ∈ bs, b ≠ l) ∧ RowsAt H' b2 (fillOf c v ((Sj07.plans c).take i)))
      ⟨[], none, none, rfl, s0.trans s1, hp, hR, s1 _ _ upd_same, ?_, ?_, .nil⟩ (fun i σ H' _ ⟨_, _, _, _, _, h, _⟩ => sq_of h) ?_ ?_⟩
    · intro z
      have e := hp
      rw [← z, s1 _ _ upd_same] at e
      cases bs with
      | nil =>
        obtain ⟨l0, hl0⟩ := CM.plans_pos c
        have := List.length_pos_of_mem hl0
        have z2 : 0 = (Sj07.plans c).length := hbl
        omega
      | cons b0 br => cases e
    · intro b hb z
      have e := hF b hb
      rw [z, upd_same] at e
      cases e
    · rintro i y σ H' hi ⟨b2, y3, y4, rfl, s2, hp2, hR2, hl2, nlp, nlb, hR3⟩
      obtain ⟨b, hb, rfl⟩ := ref_some hi
      obtain ⟨r0, hr0, hb0⟩ := rows_get hR2 hb
      obtain ⟨r, hr, rfl⟩ : ∃ r, (Sj07.plans c)[i]? = some r ∧ r0 = Sj07.ints r := by
        rw [List.getElem?_map] at hr0
        cases e : (Sj07.plans c)[i]? with
        | none =>
          rw [e] at hr0
          cases hr0
        | some r =>
          rw [e] at hr0
          exact ⟨r, rfl, (Option.some.inj hr0).symm⟩
      have rl : r.length ≤ 4 := by
        rw [plan_len (List.mem_of_getElem? hr)]
        exact hW.len
      have hC2 := hC.same s2
      have nb : b ≠ l := nlb b (List.mem_of_getElem? hb)
      have hb2 : b2.length ≤ 2401 := by
        have e1 := Paired.length hR3
        have e2 := fillOf_len c v ((Sj07.plans c).take i)
        rw [List.length_take] at e2
        omega
      refine ⟨_, rfl, x, dx, _, rfl, hC2.ins, cF_no (by decide +kernel) (by decide +kernel) a1 a2, .ref b, rfl, x, dx, a1, a2, b, c, r, rfl, hC2, hW, sq_of hb0, by omega, fun H2 s3 => ?_⟩
      refine ⟨_, rfl, _, _, rfl, rfl, ?_⟩
      refine ⟨_, rfl, _, 0, rfl, rfl, _, rfl, ite2 (fun hc => ?_) fun hc => ?_⟩
      · have eb := s3 _ _ hb0
        have el := s3 _ _ hl2
        refine ⟨.ref l, rfl, .inl ⟨rfl, _, .inl (.inl el)⟩, _, rfl, .ref b, rfl, b, Sj07.ints r, rfl, sq_of eb, line2, fun q1 n1 => ?_⟩
        have m1 : ∀ {d : Addr} {o : HO}, H2 d = some o → d ≠ q1 := fun e => ne_of_none e n1
        refine ⟨.ref b, rfl, q1, b, _, _, rfl, rfl, upd_same, (upd_ne (m1 eb)).trans eb, line_of (by rw [vn_len, CM.ints_len]; show 2 + r.length ≤ _; omega), fun q2 n2 => ?_⟩
        have m2 : ∀ {d : Addr} {o : HO}, H2 d = some o → d ≠ q2 := fun e => ne_of_none ((upd_ne (m1 e)).trans e) n2
        have sq : ∀ {o1 o2 : HO}, Same H' (upd (upd H2 q1 o1) q2 o2) := fun {o1 o2} d o e => (upd_ne (m2 (s3 _ _ e))).trans ((upd_ne (m1 (s3 _ _ e))).trans (s3 _ _ e))
        refine ⟨l, _, _, rfl, rfl, (upd_ne (m2 el)).trans ((upd_ne (m1 el)).trans el), line_lt (by rw [List.length_map]; omega), ?_⟩
        have nl' : ∀ {d : Addr}, d ≠ l → ∀ {o o1 o2 : HO}, H' d = some o → (upd (upd (upd H2 q1 o1) q2 o2) l (.lst (b2.map V.ref ++ [.ref q2]))) d = some o := by
          intro d hd o o1 o2 e
          exact (upd_ne hd).trans (sq _ _ e)
        refine ⟨b2 ++ [q2], _, _, rfl, ?_, nl' nlp.symm hp2, ?_, ?_, nlp, nlb, ?_⟩
        · exact same_put (fun d o e => sq _ _ (s2 _ _ e)) nl
        · exact rows_put (rows_same hR2 sq) nlb
        · rw [List.map_append]
          exact upd_same
        · have nq : q2 ≠ l := (m2 el).symm
          have e : fillOf c v ((Sj07.plans c).take (i + 1)) = fillOf c v ((Sj07.plans c).take i) ++ [((Sj07.holds c r : Int) - v) :: ((r.sum : Nat) : Int) :: Sj07.ints r] := by
            unfold fillOf
            rw [take_snoc hr, List.filter_append, List.map_append, List.filter_cons, if_pos hc]
            rfl
          rw [e]
          refine Paired.snoc (rows_put (rows_same hR3 sq) (row_ne hR3 hl2)) ((upd_ne nq).trans (upd_same.trans ?_))
          rw [CM.ints_sum]
          rfl
      · have e : fillOf c v ((Sj07.plans c).take (i + 1)) = fillOf c v ((Sj07.plans c).take i) := by
          unfold fillOf
          rw [take_snoc hr, List.filter_append, List.map_append, List.filter_cons, if_neg hc]
          exact List.append_nil _
        refine ⟨b2, _, _, rfl, s2.trans s3, s3 _ _ hp2, rows_same hR2 s3, s3 _ _ hl2, nlp, nlb, ?_⟩
        rw [e]
        exact rows_same hR3 s3
    · rintro σ H' ⟨b2, y3, y4, rfl, s2, hp2, hR2, hl2, nlp, nlb, hR3⟩
      rw [List.length_map, hbl, List.take_length] at hR3
      exact ⟨.ref l, rfl, q H' l b2 s2 hl2 hR3⟩
end
end CD

/-! ## D5 -/
set_option Elab.async false
set_option linter.all false
set_option maxRecDepth 100000
set_option maxHeartbeats 4000000
namespace CD
open PySem PySem.Spec PyProof.Rows L2 LamX CR
open Sj07 (Cellar Call)
theorem put_len (kvs : List (Key × V)) (k : Key) (y : V) : (putK kvs k y).length ≤ kvs.length + 1 := by
  unfold putK
  split
  · rw [List.length_map]
    omega
  · rw [List.length_append]
    exact Nat.le_refl _
theorem contains_end (l : List Int) (x z : Int) : (l ++ [x]).contains z = if z = x then true else l.contains z := by
  by_cases h : z = x
  · rw [if_pos h, List.contains_iff_mem.mpr]
    rw [h]
    exact List.mem_append.mpr (.inr (List.mem_singleton.mpr rfl))
  · rw [if_neg h]
    rw [Bool.eq_iff_iff, List.contains_iff_mem, List.contains_iff_mem, List.mem_append, List.mem_singleton]
    exact ⟨fun q => q.resolve_right h, .inl⟩
section
variable {P : Program} {w : World} {K : PySem.W.Frag} {mg : Str → Option Value} {base : Heap} {C : Addr}
theorem ok_some {f fP fH : Addr} {fd fdP fdH : FuncData} (F : Fun K "held_by_some_plan" "Cellar.held_by_some_plan" sSome f fd) (T : Txt K mg C)
    (FP : Fun K "plans_of" "plans_of" sPlans fP fdP) (bP : Binds K fdP ["stock"] []) (gP : mg "plans_of" = some (.ref fP)) (FH : Fun K "held_by" "Cellar.held_by" sHeld fH fdH) (bH : Binds K fdH ["self", "plan"] []) (mH : Meth K C "held_by" fH) :
    FnOk P w K mg base CX0 2 f fd ["self"] (spSome C) := by
  have GP : FnOk P w K mg base CX0 1 fP fdP ["stock"] (spPlans K) := ok_plans FP T
  have GH : FnOk P w K mg base CX0 1 fH fdH ["self", "plan"] (spHeld K C) := ok_held FH T
  refine F.ok scSome (fun vs H Q E h => ?_) (fun cdv A outer s H vs Q E hr h => ?_)
  · obtain ⟨x, dx, a1, a2, c, rfl, _⟩ := h
    rfl
  · obtain ⟨x, dx, a1, a2, c, rfl, hC, hW, q⟩ := h
    refine ⟨_, pss_cons (ps_set (i := 1) scSome.nd rfl (.inl rfl) pe_dnewK)
      (pss_cons (ps_for PassesOwn.never rfl (pi_list (pe_call GP hr (by rfl) gP FP.kp bP .nil pass0 (pa_cons (pe_fld (pv 0) rfl) pa_nil))) (pg_name (i := 2) scSome.nd rfl (.inl rfl))
        (pss_one (ps_dput (hu_of hr) (pv 1) (pe_meth (pv 0) T.cl mH GH hr bH .nil pass0 (pa_cons (pv 2) pa_nil)) pe_bl rfl)))
      (pss_one (ps_ret (pv 1)))), ?_⟩
    refine fun d nd => ?_
    have s0 : Same H (upd H d (.dK [])) := same_new nd
    have hC0 := hC.same s0
    refine ⟨.ref x, rfl, x, C, dx, _, _, rfl, hC0.ins, T.cl, T.nS, cF_stock a1 a2, a2, c.map (·.stock), rfl, sq_of (hC0.stk.trans (by rw [stk_ints])), by rw [List.length_map]; exact hW.len, fun m hm => ?_, fun H1 p bs s1 hp hR hF => ?_⟩
    · obtain ⟨k, hk, e⟩ := List.mem_map.mp hm
      rw [← e]
      exact (hW.ok k hk).2.2
    rw [CM.plansN_eq] at hR
    have hbl : bs.length = (Sj07.plans c).length := by
      have := Paired.length hR
      rw [List.length_map] at this
      exact this
    have hpl := CM.plans_len hW
    refine ⟨p, rfl, ⟨_, sq_of hp⟩, for_list (K := K) (a := p) (xs := bs.map V.ref) (fun i σ H' => ∃ (kvs : List (Key × V)) (y2 : Option V), σ = [some (.ref x), some (.ref d), y2] ∧ Same H H' ∧ H' p = some (.lst (bs.map V.ref)) ∧ RowsAt H' bs ((Sj07.plans c).map Sj07.ints) ∧ H' d = some (.dK kvs) ∧ kvs.length ≤ i ∧
        ∀ z : Int, (valV kvs (Sum.inl z)).isSome = (((Sj07.plans c).take i).map fun l => (Sj07.holds c l : Int)).contains z)
      ⟨[], none, rfl, s0.trans s1, hp, hR, s1 _ _ upd_same, Nat.le_refl _, fun z => rfl⟩ (fun i σ H' _ ⟨_, _, _, _, h, _⟩ => sq_of h) ?_ ?_⟩
    · rintro i y σ H' hi ⟨kvs, y2, rfl, s2, hp2, hR2, hd, hk, hz⟩
      obtain ⟨b, hb, rfl⟩ := ref_some hi
      obtain ⟨r0, hr0, hb0⟩ := rows_get hR2 hb
      obtain ⟨r, hr, rfl⟩ : ∃ r, (Sj07.plans c)[i]? = some r ∧ r0 = Sj07.ints r := by
        rw [List.getElem?_map] at hr0
        cases e : (Sj07.plans c)[i]? with
        | none =>
          rw [e] at hr0
          cases hr0
        | some r =>
          rw [e] at hr0
          exact ⟨r, rfl, (Option.some.inj hr0).symm⟩
      have rl : r.length ≤ 4 := by
        rw [plan_len (List.mem_of_getElem? hr)]
        exact hW.len
      have hil : i < (Sj07.plans c).length := (List.getElem?_eq_some_iff.mp hr).1
      have hC2 := hC.same s2
      refine ⟨_, rfl, .ref x, rfl, x, dx, _, rfl, hC2.ins, cF_no (by decide +kernel) (by decide +kernel) a1 a2, .ref b, rfl, x, dx, a1, a2, b, c, r, rfl, hC2, hW, sq_of hb0, by omega, fun H2 s3 => ?_⟩
      have hd3 := s3 _ _ hd
      refine ⟨d, _, rfl, DPut.k (k := Sum.inl (Sj07.holds c r : Int)) hd3 (line_lt (by omega)), _, _, rfl, ?_, ?_, ?_, upd_same, Nat.le_trans (put_len _ _ _) (Nat.succ_le_succ hk), fun z => ?_⟩
      · exact same_put (s2.trans s3) nd
      · exact (upd_ne (ne_of hp2 hd (by intro z; cases z))).trans (s3 _ _ hp2)
      · refine rows_put (rows_same hR2 s3) fun b' hb' z => ?_
        obtain ⟨r', hr'⟩ := rows_at hR2 hb'
        rw [z, hd] at hr'
        cases hr'
      · rw [valV_put, take_snoc hr, List.map_append]
        rw [show (List.map (fun l => (Sj07.holds c l : Int)) [r]) = [(Sj07.holds c r : Int)] from rfl, contains_end, ← hz z]
        by_cases h : z = (Sj07.holds c r : Int)
        · rw [if_pos h, if_pos (congrArg Sum.inl h)]
          rfl
        · rw [if_neg h, if_neg fun q => h (Sum.inl.inj q)]
    · rintro σ H' ⟨kvs, y2, rfl, s2, hp2, hR2, hd, hk, hz⟩
      rw [List.length_map, hbl, List.take_length] at hz
      exact ⟨.ref d, rfl, q H' d kvs s2 hd hz⟩
end
end CD

/-! ## D6 -/
set_option Elab.async false
set_option linter.all false
set_option maxRecDepth 100000
set_option maxHeartbeats 4000000
namespace CD
open PySem PySem.Spec PyProof.Rows L2 LamX CR
open Sj07 (Cellar Call)
theorem put_one {f : Str} {v x : V} {r : List (Str × V)} : putF f v ((f, x) :: r) = (f, v) :: r := if_pos rfl
theorem put_two {f g : Str} {v x : V} {r : List (Str × V)} (h : ¬ g = f) : putF f v ((g, x) :: r) = (g, x) :: putF f v r := if_neg h
theorem cF_new (a1 a2 : Addr) : putF "stock" (.ref a2) (putF "sizes" (.ref a1) []) = cF a1 a2 := (put_two (by decide +kernel)).trans rfl
theorem cF_z (a1 a2 b1 : Addr) : putF "sizes" (.ref b1) (cF a1 a2) = cF b1 a2 := put_one
theorem cF_s (a1 a2 b2 : Addr) : putF "stock" (.ref b2) (cF a1 a2) = cF a1 b2 := (put_two (by decide +kernel)).trans (congrArg _ put_one)
section
variable {P : Program} {w : World} {K : PySem.W.Frag} {mg : Str → Option Value} {base : Heap} {C : Addr}
theorem ok_init {f : Addr} {fd : FuncData} (F : Fun K "__init__" "Cellar.__init__" sInit f fd) (T : Txt K mg C) : FnOk P w K mg base CX0 1 f fd ["self"] (spInit C) := by
  refine F.ok scInit (fun vs H Q E h => ?_) (fun cdv A outer s H vs Q E hr h => ?_)
  · obtain ⟨x, dx, rfl, _⟩ := h
    rfl
  · obtain ⟨x, dx, rfl, hx, q⟩ := h
    refine ⟨_, pss_cons (ps_fld (pv 0) (pe_lst pa_nil) rfl) (pss_one (ps_fld (pv 0) (pe_lst pa_nil) rfl)), ?_⟩
    refine ⟨line0, fun a1 n1 => ⟨_, rfl, x, C, dx, _, rfl, (upd_ne (ne_of_none hx n1)).trans hx, T.cl, T.nZ, (by show 0 < 1000; decide), ?_⟩⟩
    refine ⟨line0, fun a2 n2 => ⟨_, rfl, x, C, dx, putF "sizes" (.ref a1) [], rfl, ?_, T.cl, T.nS, (by show 1 < 1000; decide), ?_⟩⟩
    · refine (upd_ne ?_).trans upd_same
      intro z
      rw [← z, upd_same] at n2
      cases n2
    · have x1 : x ≠ a1 := ne_of_none hx n1
      have x2 : x ≠ a2 := fun z => by
        rw [← z, upd_same] at n2
        cases n2
      have m2 : upd H a1 (.lst []) a2 = none := by
        rw [upd_ne x2.symm] at n2
        exact n2
      have a12 : a1 ≠ a2 := fun z => by
        rw [← z, upd_same] at m2
        cases m2
      have h2 : H a2 = none := by
        rw [upd_ne a12.symm] at m2
        exact m2
      refine q _ a1 a2 ⟨upd_same.trans (congrArg (fun z => some (HO.ins C dx z)) (cF_new a1 a2)), ?_, ?_, a12⟩ n1 h2 fun b o e hb => ?_
      · exact (upd_ne x1.symm).trans ((upd_ne a12).trans ((upd_ne x1.symm).trans upd_same))
      · exact (upd_ne x2.symm).trans upd_same
      · exact (upd_ne hb).trans ((upd_ne (ne_of_none e h2)).trans ((upd_ne hb).trans ((upd_ne (ne_of_none e n1)).trans e)))
theorem ok_begins {f : Addr} {fd : FuncData} (F : Fun K "begins" "Cellar.begins" sBegins f fd) (T : Txt K mg C) : FnOk P w K mg base CX0 1 f fd ["self"] (spBegins C) := by
  refine F.ok scBegins (fun vs H Q E h => ?_) (fun cdv A outer s H vs Q E hr h => ?_)
  · obtain ⟨x, dx, a1, a2, c, rfl, _⟩ := h
    rfl
  · obtain ⟨x, dx, a1, a2, c, rfl, hC, q⟩ := h
    refine ⟨_, pss_cons (ps_fld (pv 0) (pe_lst pa_nil) rfl) (pss_cons (ps_fld (pv 0) (pe_lst pa_nil) rfl) (pss_one (ps_ret (pe_lst (pa_cons pe_int pa_nil))))), ?_⟩
    have hx := hC.ins
    refine ⟨line0, fun b1 n1 => ⟨_, rfl, x, C, dx, _, rfl, (upd_ne (ne_of_none hx n1)).trans hx, T.cl, T.nZ, (by show 2 < 1000; decide), ?_⟩⟩
    have x1 : x ≠ b1 := ne_of_none hx n1
    rw [cF_z]
    refine ⟨line0, fun b2 n2 => ⟨_, rfl, x, C, dx, cF b1 a2, rfl, ?_, T.cl, T.nS, (by show 2 < 1000; decide), ?_⟩⟩
    · refine (upd_ne ?_).trans upd_same
      intro z
      rw [← z, upd_same] at n2
      cases n2
    · rw [cF_s]
      have x2 : x ≠ b2 := fun z => by
        rw [← z, upd_same] at n2
        cases n2
      have m2 : upd H b1 (.lst []) b2 = none := by
        rw [upd_ne x2.symm] at n2
        exact n2
      have b12 : b1 ≠ b2 := fun z => by
        rw [← z, upd_same] at m2
        cases m2
      have h2 : H b2 = none := by
        rw [upd_ne b12.symm] at m2
        exact m2
      refine ⟨line1, fun p np => ?_⟩
      have sp := same_new (o := .lst [V.int 0]) np
      refine q _ b1 b2 p ⟨sp _ _ upd_same, sp _ _ ?_, sp _ _ ?_, b12⟩ n1 h2 (fun b o e hb => sp _ _ ?_) (NdefX.upd_none (NdefX.upd_none (NdefX.upd_none (NdefX.upd_none np)))) upd_same
      · exact (upd_ne x1.symm).trans ((upd_ne b12).trans ((upd_ne x1.symm).trans upd_same))
      · exact (upd_ne x2.symm).trans upd_same
      · exact (upd_ne hb).trans ((upd_ne (ne_of_none e h2)).trans ((upd_ne hb).trans ((upd_ne (ne_of_none e n1)).trans e)))
theorem kind_bad {c : Cellar} {s n : Nat} (h : s < 1 ∨ 60 < s ∨ 6 < n) : Sj07.step c (.kind s n) = (c, Sj07.ok (-1)) := if_pos h
theorem kind_many {c : Cellar} {s n : Nat} (h : ¬ (s < 1 ∨ 60 < s ∨ 6 < n)) (h2 : 4 ≤ c.length) : Sj07.step c (.kind s n) = (c, Sj07.ok (-5)) := (if_neg h).trans (if_pos h2)
theorem kind_ok {c : Cellar} {s n : Nat} (h : ¬ (s < 1 ∨ 60 < s ∨ 6 < n)) (h2 : ¬ 4 ≤ c.length) : Sj07.step c (.kind s n) = (c ++ [⟨s, n⟩], Sj07.ok ((c.length : Nat) : Int)) := (if_neg h).trans (if_neg h2)
theorem ok_kind {f : Addr} {fd : FuncData} (F : Fun K "kind" "Cellar.kind" sKind f fd) (T : Txt K mg C) : FnOk P w K mg base CX0 1 f fd ["self", "size", "many"] (spKind C) := by
  obtain ⟨tz, hz⟩ := T.size
  obtain ⟨tm, hm⟩ := T.most
  obtain ⟨tk, hk⟩ := T.kinds
  refine F.ok scKind (fun vs H Q E h => ?_) (fun cdv A outer s H vs Q E hr h => ?_)
  · obtain ⟨x, dx, a1, a2, c, s, n, rfl, _⟩ := h
    rfl
  · obtain ⟨x, dx, a1, a2, c, s', n, rfl, hC, hW, q⟩ := h
    refine ⟨_, pss_cons (ps_if (PW.pt (pw_or (pt_not (pt_chain op_le op_le pe_int (pv 1) (pe_num (by rfl) hz))) (pw_or1 (pt_cmpR op_gt (pv 2) (pe_num (by rfl) hm) (nomark _))))) (pss_one (ps_ret (pe_lst (pa_cons (pe_un un_neg pe_int) pa_nil)))) pss_nil)
      (pss_cons (ps_if (pt_cmpR op_eq (pe_callB call_len_seq (by rfl) T.len PySem.boot_len (pa_cons (pe_fld (pv 0) rfl) pa_nil)) (pe_num (by rfl) hk) (nomark _)) (pss_one (ps_ret (pe_lst (pa_cons (pe_un un_neg pe_int) pa_nil)))) pss_nil)
      (pss_cons (ps_expr (pe_bm PySem.F.plainAttrs_list PySem.F.slot_list_append PySem.F.type_list_append mt_append (pe_fld (pv 0) rfl) (pa_cons (pv 1) pa_nil)))
      (pss_cons (ps_expr (pe_bm PySem.F.plainAttrs_list PySem.F.slot_list_append PySem.F.type_list_append mt_append (pe_fld (pv 0) rfl) (pa_cons (pv 2) pa_nil)))
      (pss_one (ps_ret (pe_lst (pa_cons (pe_op op_sub (pe_callB call_len_seq (by rfl) T.len PySem.boot_len (pa_cons (pe_fld (pv 0) rfl) pa_nil)) pe_int) pa_nil))))))), ?_⟩
    have bad : (s' < 1 ∨ 60 < s' ∨ 6 < n) → ∀ p, H p = none → Q (.ref p) (upd H p (.lst [.int (-1)])) := fun hb p np => by
      have sp := same_new (o := .lst [V.int (-1)]) np
      refine q _ p ?_ (fun b o e _ _ => sp _ _ e) np ?_
      · rw [kind_bad hb]
        exact hC.same sp
      · rw [kind_bad hb]
        exact upd_same
    refine ⟨_, rfl, 1, (s' : Int), rfl, rfl, _, rfl, ite2 (fun h1 => ?_) fun h1 => ?_⟩
    · have h1 := of_decide_eq_true h1
      refine ⟨_, 60, rfl, rfl, _, rfl, ite2 (fun h2 => ?_) fun h2 => ?_⟩
      · have h2 : ¬ (s' : Int) ≤ 60 := fun z => by
          rw [decide_eq_true z] at h2
          cases h2
        exact iteT ⟨1, rfl, line1, bad (by omega)⟩
      · have h2 : (s' : Int) ≤ 60 := by
          cases e : decide ((s' : Int) ≤ 60) with
          | true => exact of_decide_eq_true e
          | false =>
            rw [e] at h2
            exact absurd rfl h2
        refine ⟨_, rfl, _, 6, rfl, rfl, _, rfl, ite2 (fun h3 => ?_) fun h3 => ?_⟩
        · have h3 := of_decide_eq_true h3
          exact ⟨1, rfl, line1, bad (by omega)⟩
        · have h3 : ¬ (6 : Int) < n := fun z => h3 (decide_eq_true z)
          have good : ¬ (s' < 1 ∨ 60 < s' ∨ 6 < n) := by omega
          refine ⟨_, rfl, x, C, dx, _, _, rfl, hC.ins, T.cl, T.nZ, cF_sizes a1 a2, a1, _, rfl, .inl (sq_of hC.szs), rfl, _, rfl, ite2 (fun h4 => ?_) fun h4 => ?_⟩
          · have h4 := V.int.inj (of_decide_eq_true h4)
            rw [vn_len, CM.szs_len] at h4
            have c4 : 4 ≤ c.length := by omega
            refine ⟨5, rfl, line1, fun p np => ?_⟩
            have sp := same_new (o := .lst [V.int (-5)]) np
            refine q _ p ?_ (fun b o e _ _ => sp _ _ e) np ?_
            · rw [kind_many good c4]
              exact hC.same sp
            · rw [kind_many good c4]
              exact upd_same
          · have c4 : ¬ 4 ≤ c.length := fun z => h4 (decide_eq_true (by
              rw [vn_len, CM.szs_len]
              have := hW.len
              have e : c.length = 4 := by omega
              rw [e]
              rfl))
            have x1 : x ≠ a1 := ne_of hC.ins hC.szs (by intro z; cases z)
            have x2 : x ≠ a2 := ne_of hC.ins hC.stk (by intro z; cases z)
            refine ⟨_, rfl, x, C, dx, _, _, rfl, hC.ins, T.cl, T.nZ, cF_sizes a1 a2, .inl ⟨rfl, _, .inl (.inl hC.szs)⟩, _, rfl, a1, _, _, rfl, rfl, hC.szs, line_lt (by rw [vn_len, CM.szs_len]; omega), ?_⟩
            have i1 : (upd H a1 (.lst (vn (CM.szs c) ++ [V.int (s' : Int)]))) x = some (.ins C dx (cF a1 a2)) := (upd_ne x1).trans hC.ins
            have k1 : (upd H a1 (.lst (vn (CM.szs c) ++ [V.int (s' : Int)]))) a2 = some (.lst (vn (CM.stk c))) := (upd_ne hC.ne.symm).trans hC.stk
            refine ⟨_, rfl, x, C, dx, _, _, rfl, i1, T.cl, T.nS, cF_stock a1 a2, .inl ⟨rfl, _, .inl (.inl k1)⟩, _, rfl, a2, _, _, rfl, rfl, k1, line_lt (by rw [vn_len, CM.stk_len]; omega), ?_⟩
            have hC2 : CellarAt C (upd (upd H a1 (.lst (vn (CM.szs c) ++ [V.int (s' : Int)]))) a2 (.lst (vn (CM.stk c) ++ [V.int (n : Int)]))) x dx a1 a2 (c ++ [⟨s', n⟩]) := by
              refine ⟨(upd_ne x2).trans i1, ?_, ?_, hC.ne⟩
              · refine (upd_ne hC.ne).trans (upd_same.trans ?_)
                rw [CM.szs, CM.szs, List.map_append, vn, vn, List.map_append]
                rfl
              · refine upd_same.trans ?_
                rw [CM.stk, CM.stk, List.map_append, vn, vn, List.map_append]
                rfl
            refine ⟨_, rfl, x, C, dx, _, _, rfl, hC2.ins, T.cl, T.nZ, cF_sizes a1 a2, a1, _, rfl, .inl (sq_of hC2.szs), _, 1, rfl, rfl, line1, fun p np => ?_⟩
            have sp := same_new (o := .lst [V.int (((vn (CM.szs (c ++ [⟨s', n⟩]))).length : Int) - 1)]) np
            refine q _ p ?_ (fun b o e n1 n2 => sp _ _ ((upd_ne n2).trans ((upd_ne n1).trans e))) (NdefX.upd_none (NdefX.upd_none np)) ?_
            · rw [kind_ok good c4]
              exact hC2.same sp
            · rw [kind_ok good c4]
              refine upd_same.trans ?_
              have el : ((vn (CM.szs (c ++ [⟨s', n⟩]))).length : Int) - 1 = (c.length : Int) := by
                rw [vn_len, CM.szs_len, List.length_append]
                show ((c.length + 1 : Nat) : Int) - 1 = _
                omega
              show some (HO.lst [V.int (((vn (CM.szs (c ++ [⟨s', n⟩]))).length : Int) - 1)]) = _
              rw [el]
              rfl
    · have h1 : ¬ (1 : Int) ≤ s' := fun z => h1 (decide_eq_true z)
      exact ⟨_, rfl, iteT (iteT ⟨1, rfl, line1, bad (by omega)⟩)⟩
end
end CD

/-! ## D7 -/
set_option Elab.async false
set_option linter.all false
set_option maxRecDepth 100000
set_option maxHeartbeats 4000000
namespace CD
open PySem PySem.Spec PyProof.Rows L2 LamX CR
open Sj07 (Cellar Call)
theorem check_bad {c : Cellar} {v : Nat} {l : List Nat} (h : v < 1 ∨ 1500 < v ∨ Sj07.can c l = false) : Sj07.step c (.check v l) = (c, Sj07.ok (-1)) := if_pos h
theorem check_less {c : Cellar} {v : Nat} {l : List Nat} (h : ¬ (v < 1 ∨ 1500 < v ∨ Sj07.can c l = false)) (h2 : Sj07.holds c l < v) : Sj07.step c (.check v l) = (c, ⟨-6, Sj07.ints [v - Sj07.holds c l]⟩) := (if_neg h).trans (by rw [if_pos h2])
theorem check_ok {c : Cellar} {v : Nat} {l : List Nat} (h : ¬ (v < 1 ∨ 1500 < v ∨ Sj07.can c l = false)) (h2 : ¬ Sj07.holds c l < v) : Sj07.step c (.check v l) = (c, ⟨((Sj07.left c v l : Nat) : Int), Sj07.ints [l.sum]⟩) := (if_neg h).trans (by rw [if_neg h2])
theorem full_bad {c : Cellar} {v : Nat} (h : v < 1 ∨ 1500 < v) : Sj07.step c (.full v) = (c, Sj07.ok (-1)) := if_pos h
theorem full_ok {c : Cellar} {v : Nat} (h : ¬ (v < 1 ∨ 1500 < v)) : Sj07.step c (.full v) = (c, Sj07.toldBest (Sj07.full c v)) := if_neg h
theorem fewest_bad {c : Cellar} {v : Nat} (h : v < 1 ∨ 1500 < v) : Sj07.step c (.fewest v) = (c, Sj07.ok (-1)) := if_pos h
theorem fewest_ok {c : Cellar} {v : Nat} (h : ¬ (v < 1 ∨ 1500 < v)) : Sj07.step c (.fewest v) = (c, Sj07.toldBest (Sj07.fewest c v)) := if_neg h
theorem never_bad {c : Cellar} {v : Nat} (h : v < 1 ∨ 1500 < v) : Sj07.step c (.never v) = (c, Sj07.ok (-1)) := if_pos h
theorem never_ok {c : Cellar} {v : Nat} (h : ¬ (v < 1 ∨ 1500 < v)) : Sj07.step c (.never v) = (c, ⟨(((Sj07.never c v).length : Nat) : Int), Sj07.ints [(Sj07.never c v).getLastD 0]⟩) := if_neg h
theorem order_no {v : Nat} (h : ¬ decide ((1 : Int) ≤ (v : Int) ∧ (v : Int) ≤ 1500) = true) : v < 1 ∨ 1500 < v := by
  have h2 : ¬ ((1 : Int) ≤ (v : Int) ∧ (v : Int) ≤ 1500) := fun z => h (decide_eq_true z)
  omega
theorem order_yes {v : Nat} (h : decide ((1 : Int) ≤ (v : Int) ∧ (v : Int) ≤ 1500) = true) : ¬ (v < 1 ∨ 1500 < v) := by
  have h2 := of_decide_eq_true h
  omega
theorem ite_not {c : Bool} {A B : Prop} (h1 : ¬ c = true → A) (h2 : c = true → B) : if (!c) = true then A else B := by
  cases c with
  | true => exact iteF (h2 rfl)
  | false => exact iteT (h1 (by decide))
theorem fill_row {c : Cellar} {v : Nat} (hW : CM.WF c) {r : List Int} (h : r ∈ CM.fillRows c v) : ∃ a b t, r = a :: b :: t ∧ t.length ≤ 4 := by
  obtain ⟨l, hl, e⟩ := List.mem_map.mp h
  refine ⟨_, _, _, e.symm, ?_⟩
  rw [CM.ints_len, plan_len (List.mem_filter.mp hl).1]
  exact hW.len
theorem fill_len {c : Cellar} {v : Nat} (hW : CM.WF c) : (CM.fillRows c v).length ≤ 2401 := Nat.le_trans (fillOf_len c v (Sj07.plans c)) (CM.plans_len hW)
section
variable {P : Program} {w : World} {K : PySem.W.Frag} {mg : Str → Option Value} {base : Heap} {C : Addr}
theorem ok_check {f fO fC fH : Addr} {fd fdO fdC fdH : FuncData} (F : Fun K "check" "Cellar.check" sCheck f fd) (T : Txt K mg C)
    (FO : Fun K "is_order" "is_order" sOrder fO fdO) (bO : Binds K fdO ["order"] []) (gO : mg "is_order" = some (.ref fO)) (FC : Fun K "can_take" "Cellar.can_take" sCan fC fdC) (bC : Binds K fdC ["self", "plan"] []) (mC : Meth K C "can_take" fC)
    (FH : Fun K "held_by" "Cellar.held_by" sHeld fH fdH) (bH : Binds K fdH ["self", "plan"] []) (mH : Meth K C "held_by" fH) :
    FnOk P w K mg base CX0 2 f fd ["self", "order", "plan"] (spRead K C (argCheck K)) := by
  have GO : FnOk P w K mg base CX0 1 fO fdO ["order"] spOrder := ok_order FO T
  have GC : FnOk P w K mg base CX0 1 fC fdC ["self", "plan"] (spCan K C) := ok_can FC T
  have GH : FnOk P w K mg base CX0 1 fH fdH ["self", "plan"] (spHeld K C) := ok_held FH T
  refine F.ok scCheck (fun vs H Q E h => ?_) (fun cdv A outer s H vs Q E hr h => ?_)
  · obtain ⟨x, dx, a1, a2, c, r, cl, rfl, _, _, ⟨v, l, p, rfl, _⟩, _⟩ := h
    rfl
  · obtain ⟨x, dx, a1, a2, c, r, cl, rfl, hC, hW, ⟨v, l, p, rfl, hS, hl, rfl⟩, q⟩ := h
    refine ⟨_, pss_cons (ps_if (PW.pt (pw_or (pt_not (pt_val (pe_call GO hr (by rfl) gO FO.kp bO .nil pass0 (pa_cons (pv 1) pa_nil)))) (pw_or1 (pt_not (pt_val (pe_meth (pv 0) T.cl mC GC hr bC .nil pass0 (pa_cons (pv 2) pa_nil))))))) (pss_one (ps_ret (pe_lst (pa_cons (pe_un un_neg pe_int) pa_nil)))) pss_nil)
      (pss_cons (ps_set (i := 3) scCheck.nd rfl (.inl rfl) (pe_meth (pv 0) T.cl mH GH hr bH .nil pass0 (pa_cons (pv 2) pa_nil)))
      (pss_cons (ps_if (pt_cmpR op_lt (pv 3) (pv 1) (nomark _)) (pss_one (ps_ret (pe_lst (pa_cons (pe_un un_neg pe_int) (pa_cons (pe_op op_sub (pv 1) (pv 3)) pa_nil))))) pss_nil)
      (pss_one (ps_ret (pe_lst (pa_cons (pe_op op_sub (pv 3) (pv 1)) (pa_cons (pe_callB (cr_sum rfl) (by rfl) T.sum (by decide +kernel) (pa_cons (pv 2) pa_nil)) pa_nil))))))), ?_⟩
    have bad : (v < 1 ∨ 1500 < v ∨ Sj07.can c l = false) → ∀ H2, Same H H2 → ∀ p, H2 p = none → Q (.ref p) (upd H2 p (.lst [.int (-1)])) := fun hb H2 s2 p np => by
      refine q _ p (s2.trans (same_new np)) (Same.free s2 np) ?_
      rw [check_bad hb]
      exact upd_same
    refine ⟨_, rfl, _, rfl, _, rfl, ite_not (fun h1 => ?_) fun h1 => ?_⟩
    · exact iteT ⟨1, rfl, line1, bad (by have := order_no h1; omega) H (Same.refl H)⟩
    · have h1 := order_yes h1
      refine ⟨_, rfl, x, dx, _, rfl, hC.ins, cF_no (by decide +kernel) (by decide +kernel) a1 a2, _, rfl, x, dx, a1, a2, p, c, l, rfl, hC, hW, hS, hl, fun H1 s1 => ⟨_, rfl, ite_not (fun h2 => ?_) fun h2 => ?_⟩⟩
      · exact ⟨1, rfl, line1, bad (.inr (.inr (by simpa using h2))) H1 s1⟩
      · have hC1 := hC.same s1
        have hS1 := s1.seq hS
        have good : ¬ (v < 1 ∨ 1500 < v ∨ Sj07.can c l = false) := fun z => by
          rcases z with z | z | z
          · exact h1 (.inl z)
          · exact h1 (.inr z)
          · rw [z] at h2
            cases h2
        refine ⟨_, rfl, x, dx, _, rfl, hC1.ins, cF_no (by decide +kernel) (by decide +kernel) a1 a2, _, rfl, x, dx, a1, a2, p, c, l, rfl, hC1, hW, hS1, hl, fun H2 s2 => ?_⟩
        have hS2 := s2.seq hS1
        refine ⟨_, rfl, _, rfl, _, _, rfl, rfl, _, rfl, ite2 (fun h3 => ?_) fun h3 => ?_⟩
        · have h3 : Sj07.holds c l < v := by
            have := of_decide_eq_true h3
            omega
          refine ⟨6, rfl, _, rfl, _, rfl, _, _, rfl, rfl, line2, fun p' np => ?_⟩
          refine q _ p' (s1.trans (s2.trans (same_new np))) (Same.free (s1.trans s2) np) ?_
          rw [check_less good h3]
          refine upd_same.trans ?_
          show some (HO.lst [V.int (-6), V.int ((v : Int) - (Sj07.holds c l : Int))]) = some (HO.lst [V.int (-6), V.int ((v - Sj07.holds c l : Nat) : Int)])
          rw [Int.ofNat_sub (Nat.le_of_lt h3)]
        · have h3 : ¬ Sj07.holds c l < v := fun z => h3 (decide_eq_true (by omega))
          refine ⟨_, rfl, _, rfl, _, _, rfl, rfl, _, rfl, p, Sj07.ints l, rfl, hS2, line2, fun p' np => ?_⟩
          refine q _ p' (s1.trans (s2.trans (same_new np))) (Same.free (s1.trans s2) np) ?_
          rw [check_ok good h3]
          refine upd_same.trans ?_
          show some (HO.lst [V.int ((Sj07.holds c l : Int) - (v : Int)), V.int (Sj07.ints l).sum]) = some (HO.lst [V.int ((Sj07.holds c l - v : Nat) : Int), V.int ((l.sum : Nat) : Int)])
          rw [Int.ofNat_sub (Nat.le_of_not_lt h3), CM.ints_sum]
theorem ok_full {f fO fB fL fP fH : Addr} {fd fdO fdB fdL fdP fdH : FuncData} (F : Fun K "full" "Cellar.full" sFull f fd) (T : Txt K mg C)
    (FO : Fun K "is_order" "is_order" sOrder fO fdO) (bO : Binds K fdO ["order"] []) (gO : mg "is_order" = some (.ref fO)) (FB : Fun K "best_of" "best_of" sBest fB fdB) (bB : Binds K fdB ["rows"] []) (gB : mg "best_of" = some (.ref fB))
    (FL : Fun K "filling_rows" "Cellar.filling_rows" sFill fL fdL) (bL : Binds K fdL ["self", "order"] []) (mL : Meth K C "filling_rows" fL)
    (FP : Fun K "plans_of" "plans_of" sPlans fP fdP) (bP : Binds K fdP ["stock"] []) (gP : mg "plans_of" = some (.ref fP)) (FH : Fun K "held_by" "Cellar.held_by" sHeld fH fdH) (bH : Binds K fdH ["self", "plan"] []) (mH : Meth K C "held_by" fH) :
    FnOk P w K mg base CX0 3 f fd ["self", "order"] (spRead K C argFull) := by
  have GO : FnOk P w K mg base CX0 1 fO fdO ["order"] spOrder := ok_order FO T
  have GB : FnOk P w K mg base CX0 1 fB fdB ["rows"] (spBest K) := ok_best FB T
  have GL : FnOk P w K mg base CX0 2 fL fdL ["self", "order"] (spFill C) := ok_fill FL T FP bP gP FH bH mH
  refine F.ok scFull (fun vs H Q E h => ?_) (fun cdv A outer s H vs Q E hr h => ?_)
  · obtain ⟨x, dx, a1, a2, c, r, cl, rfl, _, _, ⟨v, rfl, _⟩, _⟩ := h
    rfl
  · obtain ⟨x, dx, a1, a2, c, r, cl, rfl, hC, hW, ⟨v, rfl, rfl⟩, q⟩ := h
    refine ⟨_, pss_cons (ps_if (pt_not (pt_val (pe_call GO (hr.mono (by decide)) (by rfl) gO FO.kp bO .nil pass0 (pa_cons (pv 1) pa_nil)))) (pss_one (ps_ret (pe_lst (pa_cons (pe_un un_neg pe_int) pa_nil)))) pss_nil)
      (pss_one (ps_ret (pe_call GB (hr.mono (by decide)) (by rfl) gB FB.kp bB .nil pass0 (pa_cons (pe_meth (pv 0) T.cl mL GL hr bL .nil pass0 (pa_cons (pv 1) pa_nil)) pa_nil)))), ?_⟩
    refine ⟨_, rfl, _, rfl, _, rfl, ite_not (fun h1 => ?_) fun h1 => ?_⟩
    · refine ⟨1, rfl, line1, fun p np => q _ p (same_new np) np ?_⟩
      rw [full_bad (order_no h1)]
      exact upd_same
    · have h1 := order_yes h1
      refine ⟨_, rfl, x, dx, _, rfl, hC.ins, cF_no (by decide +kernel) (by decide +kernel) a1 a2, _, rfl, x, dx, a1, a2, c, v, rfl, hC, hW, fun H1 p bs s1 hp hR => ?_⟩
      refine ⟨p, bs, CM.fillRows c v, rfl, sq_of hp, hR, Nat.le_trans (fill_len hW) (by decide), fun r hr => ?_, fun H2 p' s2 np' hp' => q H2 p' (s1.trans s2) (Same.free s1 np') ?_⟩
      · obtain ⟨a, b, t, rfl, ht⟩ := fill_row hW hr
        show t.length + 1 + 1 ≤ _
        omega
      · rw [full_ok h1, ← CM.full_eq]
        exact hp'
theorem ok_fewest {f fO fB fL fP fH : Addr} {fd fdO fdB fdL fdP fdH : FuncData} (F : Fun K "fewest" "Cellar.fewest" sFewest f fd) (T : Txt K mg C)
    (FO : Fun K "is_order" "is_order" sOrder fO fdO) (bO : Binds K fdO ["order"] []) (gO : mg "is_order" = some (.ref fO)) (FB : Fun K "best_of" "best_of" sBest fB fdB) (bB : Binds K fdB ["rows"] []) (gB : mg "best_of" = some (.ref fB))
    (FL : Fun K "filling_rows" "Cellar.filling_rows" sFill fL fdL) (bL : Binds K fdL ["self", "order"] []) (mL : Meth K C "filling_rows" fL)
    (FP : Fun K "plans_of" "plans_of" sPlans fP fdP) (bP : Binds K fdP ["stock"] []) (gP : mg "plans_of" = some (.ref fP)) (FH : Fun K "held_by" "Cellar.held_by" sHeld fH fdH) (bH : Binds K fdH ["self", "plan"] []) (mH : Meth K C "held_by" fH) :
    FnOk P w K mg base CX0 3 f fd ["self", "order"] (spRead K C argFewest) := by
  have GO : FnOk P w K mg base CX0 1 fO fdO ["order"] spOrder := ok_order FO T
  have GB : FnOk P w K mg base CX0 1 fB fdB ["rows"] (spBest K) := ok_best FB T
  have GL : FnOk P w K mg base CX0 2 fL fdL ["self", "order"] (spFill C) := ok_fill FL T FP bP gP FH bH mH
  refine F.ok scFewest (fun vs H Q E h => ?_) (fun cdv A outer s H vs Q E hr h => ?_)
  · obtain ⟨x, dx, a1, a2, c, r, cl, rfl, _, _, ⟨v, rfl, _⟩, _⟩ := h
    rfl
  · obtain ⟨x, dx, a1, a2, c, r, cl, rfl, hC, hW, ⟨v, rfl, rfl⟩, q⟩ := h
    refine ⟨_, pss_cons (ps_if (pt_not (pt_val (pe_call GO (hr.mono (by decide)) (by rfl) gO FO.kp bO .nil pass0 (pa_cons (pv 1) pa_nil)))) (pss_one (ps_ret (pe_lst (pa_cons (pe_un un_neg pe_int) pa_nil)))) pss_nil)
      (pss_one (ps_ret (pe_call GB (hr.mono (by decide)) (by rfl) gB FB.kp bB .nil pass0 (pa_cons (pe_lc (own := [("row", 2)]) (g := gName 2) (tt := tYes)
          (te := tOp rCat (tLst (tCons (tOp (rIxL K) (tVar 2) (tC (.int 1))) (tCons (tOp (rIxL K) (tVar 2) (tC (.int 0))) tNil))) (tSl (rSlL K) (tVar 2) (tPart (tC (.int 2))) tNoPart)) rfl scFewest.nd
          (pi_list (pe_meth (pv 0) T.cl mL GL hr bL .nil pass0 (pa_cons (pv 1) pa_nil))) (blkOk_by (N := ["self", "order", "row"]) (sc := defScope sFewest) (by decide +kernel)) (fun _ _ _ _ _ => pg_name (i := 2) scFewest.nd rfl (Or.inl rfl) (Or.inr rfl))
          (fun _ _ _ _ _ => pts_nil) (fun _ _ _ _ _ => pe_op op_cat (pe_lst (pa_cons (pe_ix ix_list (pv 2) pe_int (fun _ _ => rfl)) (pa_cons (pe_ix ix_list (pv 2) pe_int (fun _ _ => rfl)) pa_nil))) (pe_slice sl_list (pv 2) (po_some pe_int) po_none))) pa_nil)))), ?_⟩
    refine ⟨_, rfl, _, rfl, _, rfl, ite_not (fun h1 => ?_) fun h1 => ?_⟩
    · refine ⟨1, rfl, line1, fun p np => q _ p (same_new np) np ?_⟩
      rw [fewest_bad (order_no h1)]
      exact upd_same
    · have h1 := order_yes h1
      refine ⟨_, rfl, x, dx, _, rfl, hC.ins, cF_no (by decide +kernel) (by decide +kernel) a1 a2, _, rfl, x, dx, a1, a2, c, v, rfl, hC, hW, fun H1 p bs s1 hp hR => ?_⟩
      have hbl : bs.length = (CM.fillRows c v).length := Paired.length hR
      have hfl := fill_len (v := v) hW
      refine ⟨p, rfl, ⟨_, sq_of hp⟩, fun D nD => lc_list (K := K) (a := p) (xs := bs.map V.ref) (fun i H' => Same H1 H' ∧ ∃ b2 : List Addr, H' D = some (.lst (b2.map V.ref)) ∧ RowsAt H' b2 (((CM.fillRows c v).map CM.swapRow).take i))
        ⟨same_new nD, [], upd_same, .nil⟩ (fun i H' _ g => sq_of (g.1 _ _ hp)) ?_ ?_⟩
      · rintro i y H' hi ⟨s2, b2, hD, hR2⟩
        obtain ⟨b, hb, rfl⟩ := ref_some hi
        obtain ⟨r, hr, hb0⟩ := rows_get hR hb
        obtain ⟨z0, z1, t, rfl, ht⟩ := fill_row hW (List.mem_of_getElem? hr)
        have hb1 := s2 _ _ hb0
        have hb2 : b2.length ≤ 2401 := by
          have := Paired.length hR2
          rw [List.length_take, List.length_map] at this
          omega
        refine ⟨rfl, .ref b, rfl, b, _, 1, .int z1, rfl, rfl, sq_of hb1, atI_nat (j := 1) rfl, .ref b, rfl, b, _, 0, .int z0, rfl, rfl, sq_of hb1, atI_nat (j := 0) rfl, line2, fun q1 n1 => ?_⟩
        have sa := same_new (o := .lst [V.int z1, V.int z0]) n1
        refine ⟨.ref b, rfl, 2, rfl, b, _, rfl, sq_of (sa _ _ hb1), fun q2 n2 => ?_⟩
        have e2 : cutV (vn (z0 :: z1 :: t)) (some 2) none = vn t := (cut_from _ 2).trans rfl
        have sb := same_new (o := .lst (cutV (vn (z0 :: z1 :: t)) (some 2) none)) n2
        refine ⟨q1, q2, _, _, rfl, rfl, sb _ _ upd_same, upd_same, line_of (by rw [e2, vn_len]; show 2 + t.length ≤ _; omega), fun q3 n3 => ?_⟩
        have sc := same_new (o := .lst ([V.int z1, V.int z0] ++ cutV (vn (z0 :: z1 :: t)) (some 2) none)) n3
        have sall := sa.trans (sb.trans sc)
        have hD3 := sall _ _ hD
        refine ⟨_, hD3, line_lt (by rw [List.length_map]; omega), same_put (s2.trans sall) nD, b2 ++ [q3], ?_, ?_⟩
        · rw [List.map_append]
          exact upd_same
        · have nq : q3 ≠ D := (ne_of_none (sb _ _ (sa _ _ hD)) n3).symm
          have ht' : ((CM.fillRows c v).map CM.swapRow)[i]? = some ([z1, z0] ++ t) := by
            rw [List.getElem?_map, hr]
            rfl
          rw [take_snoc ht']
          refine Paired.snoc (rows_put (rows_same hR2 sall) (row_ne hR2 hD)) ((upd_ne nq).trans (upd_same.trans ?_))
          rw [e2]
          rfl
      · rintro H' ⟨s2, b2, hD, hR2⟩
        rw [List.length_map, hbl, List.take_of_length_le (by rw [List.length_map]; exact Nat.le_refl _)] at hR2
        refine ⟨D, b2, (CM.fillRows c v).map CM.swapRow, rfl, sq_of hD, hR2, by rw [List.length_map]; exact Nat.le_trans hfl (by decide), fun r hr => ?_, fun H2 p' s3 np' hp' => q H2 p' (s1.trans (s2.trans s3)) (Same.free (s1.trans s2) np') ?_⟩
        · obtain ⟨r0, hr0, rfl⟩ := List.mem_map.mp hr
          obtain ⟨a, b, t, rfl, ht⟩ := fill_row hW hr0
          show t.length + 1 + 1 ≤ _
          omega
        · rw [fewest_ok h1, ← CM.fewest_eq]
          exact hp'
theorem ok_never {f fO fS fP fH : Addr} {fd fdO fdS fdP fdH : FuncData} (F : Fun K "never" "Cellar.never" sNever f fd) (T : Txt K mg C)
    (FO : Fun K "is_order" "is_order" sOrder fO fdO) (bO : Binds K fdO ["order"] []) (gO : mg "is_order" = some (.ref fO)) (FS : Fun K "held_by_some_plan" "Cellar.held_by_some_plan" sSome fS fdS) (bS : Binds K fdS ["self"] []) (mS : Meth K C "held_by_some_plan" fS)
    (FP : Fun K "plans_of" "plans_of" sPlans fP fdP) (bP : Binds K fdP ["stock"] []) (gP : mg "plans_of" = some (.ref fP)) (FH : Fun K "held_by" "Cellar.held_by" sHeld fH fdH) (bH : Binds K fdH ["self", "plan"] []) (mH : Meth K C "held_by" fH) :
    FnOk P w K mg base CX0 3 f fd ["self", "most"] (spRead K C argNever) := by
  have GO : FnOk P w K mg base CX0 1 fO fdO ["order"] spOrder := ok_order FO T
  have GS : FnOk P w K mg base CX0 2 fS fdS ["self"] (spSome C) := ok_some FS T FP bP gP FH bH mH
  refine F.ok scNever (fun vs H Q E h => ?_) (fun cdv A outer s H vs Q E hr h => ?_)
  · obtain ⟨x, dx, a1, a2, c, r, cl, rfl, _, _, ⟨v, rfl, _⟩, _⟩ := h
    rfl
  · obtain ⟨x, dx, a1, a2, c, r, cl, rfl, hC, hW, ⟨v, rfl, rfl⟩, q⟩ := h
    refine ⟨_, pss_cons (ps_if (pt_not (pt_val (pe_call GO (hr.mono (by decide)) (by rfl) gO FO.kp bO .nil pass0 (pa_cons (pv 1) pa_nil)))) (pss_one (ps_ret (pe_lst (pa_cons (pe_un un_neg pe_int) pa_nil)))) pss_nil)
      (pss_cons (ps_set (i := 2) scNever.nd rfl (.inr rfl) (pe_meth0 (pv 0) T.cl mS GS hr bS .nil pass0))
      (pss_cons (ps_setLc (i := 3) (own := [("number", 4)]) (g := gName 4) (tt := tB (tDNotIn (tVar 4) (tVar 2))) (te := tVar 4) rfl scNever.nd rfl rfl (sw_true rfl rfl rfl (by decide +kernel))
          (pi_range2 (by rfl) T.range (pa_cons pe_int (pa_cons (pe_op op_add (pv 1) pe_int) pa_nil))) (blkOk_by (N := ["self", "most", "held", "missed", "number"]) (sc := defScope sNever) (by decide +kernel)) (fun _ _ _ _ _ => pg_name (i := 4) scNever.nd rfl (Or.inl rfl) (Or.inr rfl))
          (fun _ _ _ _ _ => pts_one (pt_cmp (pc_dnotin (hu_of hr) (pv 4) (pv 2)))) (fun _ _ _ _ _ => pv 4))
      (pss_one (ps_ret (pe_lst (pa_cons (pe_callB call_len_seq (by rfl) T.len PySem.boot_len (pa_cons (pv 3) pa_nil)) (pa_cons (pe_callBK (cr_maxDef rfl hr.units) (by rfl) T.max (by decide +kernel) (pa_cons (pv 3) pa_nil) (pk_cons pe_int pk_nil)) pa_nil))))))), ?_⟩
    refine ⟨_, rfl, _, rfl, _, rfl, ite_not (fun h1 => ?_) fun h1 => ?_⟩
    · refine ⟨1, rfl, line1, fun p np => q _ p (same_new np) np ?_⟩
      rw [never_bad (order_no h1)]
      exact upd_same
    · have h1 := order_yes h1
      refine ⟨_, rfl, x, dx, _, rfl, hC.ins, cF_no (by decide +kernel) (by decide +kernel) a1 a2, x, dx, a1, a2, c, rfl, hC, hW, fun H1 d kvs s1 hd hz => ?_⟩
      have en : ((v : Int) + 1 - 1).toNat = v := by omega
      refine ⟨_, rfl, _, 1, rfl, rfl, 1, _, rfl, ⟨by omega, by omega, by omega, by omega⟩, fun D nD => lc_range (lo := 1) (n := ((v : Int) + 1 - 1).toNat) (fun i H' => Same H1 H' ∧ H' D = some (.lst (vn (((List.range i).map fun j : Nat => (1 : Int) + (j : Int)).filter fun z => !((Sj07.plans c).map fun l => (Sj07.holds c l : Int)).contains z))))
        ⟨same_new nD, upd_same⟩ ?_ ?_⟩
      · rintro i H' hi ⟨s2, hD⟩
        rw [en] at hi
        have hd2 := s2 _ _ hd
        refine ⟨rfl, _, rfl, _, rfl, d, _, rfl, DGet.k (k := Sum.inl ((1 : Int) + (i : Int))) hd2, _, rfl, ?_⟩
        rw [hz]
        have er : (List.range (i + 1)).map (fun j : Nat => (1 : Int) + (j : Int)) = (List.range i).map (fun j : Nat => (1 : Int) + (j : Int)) ++ [(1 : Int) + (i : Int)] := by
          rw [List.range_succ, List.map_append]
          rfl
        have eb : (((List.range i).map fun j : Nat => (1 : Int) + (j : Int)).filter fun z => !((Sj07.plans c).map fun l => (Sj07.holds c l : Int)).contains z).length ≤ i := by
          have := List.length_filter_le (fun z => !((Sj07.plans c).map fun l => (Sj07.holds c l : Int)).contains z) ((List.range i).map fun j : Nat => (1 : Int) + (j : Int))
          rw [List.length_map, List.length_range] at this
          exact this
        refine ite2 (fun hc => ?_) fun hc => ?_
        · refine ⟨_, rfl, _, hD, line_lt (by rw [vn_len]; omega), same_put s2 nD, ?_⟩
          rw [er, List.filter_append, List.filter_cons, if_pos hc]
          show _ = some (HO.lst (vn (_ ++ [(1 : Int) + (i : Int)])))
          rw [vn_snoc]
          exact upd_same
        · refine ⟨s2, ?_⟩
          rw [er, List.filter_append, List.filter_cons, if_neg hc]
          show _ = some (HO.lst (vn (_ ++ [])))
          rw [List.append_nil]
          exact hD
      · rintro H' ⟨s2, hD⟩
        rw [en] at hD
        have hD : H' D = some (.lst (vn (CM.missed c v))) := hD
        refine ⟨.ref D, rfl, D, _, rfl, .inl (sq_of hD), .ref D, rfl, D, CM.missed c v, rfl, rfl, sq_of hD, line2, fun p np => ?_⟩
        refine q _ p (s1.trans (s2.trans (same_new np))) (Same.free (s1.trans s2) np) ?_
        rw [never_ok h1]
        refine upd_same.trans ?_
        rw [CM.never_max, vn_len, CM.missed_len]
        rfl
end
end CD

/-! ## D8 -/
set_option Elab.async false
set_option linter.all false
set_option maxRecDepth 100000
set_option maxHeartbeats 4000000
namespace CD
open PySem PySem.Spec PyProof.Rows L2 LamX NdefX CR
open Sj07 (Cellar Call)
/-- a def whose code object is known -/
structure FunC (K : PySem.W.Frag) (x qual : Str) (st : Stmt) (f : Addr) (fd : FuncData) (c : Addr) : Prop where
  ex : ∃ (oc : Value) (od : Option Addr) (kV doc pm : Value) (an : Option Addr) (ct : Value) (osl : Array (Option Value)),
    fd = PySem.W.fnOf x qual (defArgs st) (defBody st) (defScope st) .none kV doc pm an (.ref c) ct ∧ K.lookup f = some ⟨oc, od, .func fd, osl⟩ ∧ PySem.W.codeIn K (.ref c) qual = true
def lamQ : Str := ("Cellar.numbers_largest_first" ++ ".<locals>.") ++ "<lambda>"
abbrev lamT (tb : Addr) : List (Addr × Str) := [(tb, lamQ)]
theorem tabs_put {T : List (Addr × Str)} {H : Hp} {p : Addr} {xs : List V} {o : HO} (t : Tabs T H) (e : H p = some (.lst xs)) : Tabs T (upd H p o) := fun d hd => by
  obtain ⟨ps, h1, h2, h3⟩ := t d hd
  refine ⟨ps, (upd_ne (ne_of h1 e (by intro z; cases z))).trans h1, h2, fun pos cv hc => ?_⟩
  obtain ⟨c, e1, e2⟩ := h3 pos cv hc
  refine ⟨c, e1, (upd_ne (ne_of e2 e (by intro z; unfold CodeO at z; cases z))).trans e2⟩
theorem tabs_same {T : List (Addr × Str)} {H H' : Hp} (t : Tabs T H) (s : Same H H') : Tabs T H' := t.ext s
section
variable {P : Program} {w : World} {K : PySem.W.Frag} {mg : Str → Option Value} {base : Heap} {C : Addr}
theorem ok_largest {f c tb : Addr} {fd : FuncData} (F : FunC K "numbers_largest_first" "Cellar.numbers_largest_first" sLargest f fd c) (T : Txt K mg C) (TB : TabB base mg c tb) : FnOk P w K mg base CX0 4 f fd ["self"] (spLargest C (lamT tb)) := by
  obtain ⟨oc, od, kV, doc, pm, an, ct, osl, rfl, lk, hcd⟩ := F.ex
  refine fn_of lk hcd scLargest (fun vs H Q E h => ?_) fun A outer s H vs Q E hr h => ?_
  · obtain ⟨x, dx, a1, a2, cl, rfl, _⟩ := h
    rfl
  · obtain ⟨x, dx, a1, a2, cl, rfl, hC, hW, hT, q⟩ := h
    refine ⟨_, (pss_one (ps_ret (pe_sortLam (T := lamT tb) (N := ["number", "self"]) (fr := ["self"]) (js := [0]) (a := "number")
      (tb := tTup (tCons (tUn (rU fun i => .int (-i)) (tOp (rIxL K) (tFld K (tVar 1) "sizes") (tVar 0))) (tCons (tVar 0) tNil))) (by rfl) T.sorted rfl
      (pe_callTy cr_rng (by rfl) T.range (by decide +kernel) (pa_cons (pe_callB call_len_seq (by rfl) T.len PySem.boot_len (pa_cons (pe_fld (pv 0) rfl) pa_nil)) pa_nil))
      TB rfl (List.mem_singleton.mpr rfl) (fun p hp _ => by rw [List.mem_singleton.mp hp]; rfl) hr (nscope_by (by decide +kernel)) (fun y hy e => by
        rcases List.mem_cons.mp hy with z | z
        · rw [z] at e
          cases e
        · rw [List.mem_singleton.mp z]
          exact .inl rfl) (by decide +kernel) rfl rfl (fun _ _ _ _ _ _ => rfl)
      (fun f c' A outer s H => pe_tup (pa_cons (pe_un un_neg (pe_ix ix_list (pe_fld (pv 1) rfl) (pv 0) (fun _ _ => rfl))) (pa_cons (pv 0) pa_nil))))) : PSs (cxOf CX0 P w K mg base ["self"] "Cellar.numbers_largest_first" (defScope sLargest) f (.ref c) A outer s H E).nox _ _).nox, ?_⟩
    refine ⟨.ref x, rfl, x, C, dx, _, _, rfl, hC.ins, T.cl, T.nZ, cF_sizes a1 a2, a1, _, rfl, .inl (sq_of hC.szs), _, rfl, fun r nr => ?_⟩
    have sr := same_new (o := .rng 0 ((vn (CM.szs cl)).length : Int)) nr
    have el : (vn (CM.szs cl)).length = cl.length := by rw [vn_len, CM.szs_len]
    refine ⟨r, cl.length, fun i => -((cl.getD i ⟨0, 0⟩).size : Int), fun i => (i : Int), rfl, upd_same.trans (by rw [el]), Nat.le_trans hW.len (by decide), tabs_same hT sr, fun H2 eN T2 => ⟨fun i hi H3 s3 => ?_, fun H3 L s3 nL hL => ?_⟩⟩
    · have hC3 := ((hC.same sr).extN eN).same s3
      refine ⟨.ref x, rfl, x, C, dx, _, _, rfl, hC3.ins, T.cl, T.nZ, cF_sizes a1 a2, _, rfl, a1, _, (i : Int), _, rfl, rfl, sq_of hC3.szs, atI_nat (vn_at (CM.szs_at hi)), _, rfl, _, rfl, line2, fun p np => ⟨p, rfl, same_new np, upd_same⟩⟩
    · refine q H3 L (ExtN.trans (ExtN.of sr) (ExtN.trans eN (ExtN.of s3))) (tabs_same T2 s3) (fun b o e hn z => ?_) (hL.trans ?_)
      · have := eN _ _ (sr _ _ e) hn
        rw [z, nL] at this
        cases this
      · have es : (List.range cl.length).mergeSort (keyLe (fun i => -((cl.getD i ⟨0, 0⟩).size : Int)) fun i => (i : Int)) = Sj07.sorted cl := CM.sorted_eq cl
        rw [es, vn, Sj07.ints, List.map_map]
        rfl
theorem plain_bad {c : Cellar} {v : Nat} (h : v < 1 ∨ 1500 < v) : Sj07.step c (.plain v) = (c, Sj07.ok (-1)) := if_pos h
theorem plain_ok {c : Cellar} {v : Nat} (h : ¬ (v < 1 ∨ 1500 < v)) : Sj07.step c (.plain v) = (c, ⟨(((Sj07.plain c v).2 : Nat) : Int), Sj07.ints ((Sj07.plain c v).1.sum :: (Sj07.plain c v).1)⟩) := if_neg h
theorem ix_at {n i : Nat} (h : i < n) : ixN n (i : Int) = some i := by
  unfold ixN
  rw [if_pos (Int.natCast_nonneg i), if_pos (by omega), Int.toNat_natCast]
theorem ints_set (l : List Nat) (i n : Nat) : (vn (Sj07.ints l)).set i (V.int (n : Int)) = vn (Sj07.ints (l.set i n)) := by
  rw [vn, vn, Sj07.ints, Sj07.ints, List.map_map, List.map_map, List.map_set]
  rfl
theorem ints_at {l : List Nat} {i n : Nat} (h : l[i]? = some n) : (vn (Sj07.ints l))[i]? = some (V.int (n : Int)) := by
  rw [vn, Sj07.ints, List.map_map, List.getElem?_map, h]
  rfl
theorem min_nat (s d : Nat) : (if ((d : Nat) : Int) < (s : Int) then ((d : Nat) : Int) else (s : Int)) = ((min s d : Nat) : Int) := by
  by_cases h : d < s
  · rw [if_pos (by omega)]
    omega
  · rw [if_neg (by omega)]
    omega
theorem fdiv_nat (a b : Nat) : ((a : Int)).fdiv (b : Int) = ((a / b : Nat) : Int) := by
  rw [Int.fdiv_eq_ediv_of_nonneg _ (Int.natCast_nonneg b)]
  rfl
theorem rep_zero (n : Nat) : (List.replicate n [V.int 0]).flatten = vn (Sj07.ints (List.replicate n 0)) := by
  induction n with
  | zero => rfl
  | succ n ih =>
    rw [List.replicate_succ, List.flatten_cons, ih]
    rfl
theorem ok_plain {f fO fL c0 tb : Addr} {fd fdO fdL : FuncData} (F : Fun K "plain" "Cellar.plain" sPlain f fd) (T : Txt K mg C)
    (FO : Fun K "is_order" "is_order" sOrder fO fdO) (bO : Binds K fdO ["order"] []) (gO : mg "is_order" = some (.ref fO)) (FL : FunC K "numbers_largest_first" "Cellar.numbers_largest_first" sLargest fL fdL c0) (bL : Binds K fdL ["self"] []) (mL : Meth K C "numbers_largest_first" fL) (TB : TabB base mg c0 tb) :
    FnOk P w K mg base CX0 5 f fd ["self", "order"] (spPlain C (lamT tb)) := by
  have GO : FnOk P w K mg base CX0 1 fO fdO ["order"] spOrder := ok_order FO T
  have GL : FnOk P w K mg base CX0 4 fL fdL ["self"] (spLargest C (lamT tb)) := ok_largest FL T TB
  refine F.ok scPlain (fun vs H Q E h => ?_) (fun cdv A outer s H vs Q E hr h => ?_)
  · obtain ⟨x, dx, a1, a2, c, v, rfl, _⟩ := h
    rfl
  · obtain ⟨x, dx, a1, a2, c, v, rfl, hC, hW, hT, q⟩ := h
    refine ⟨_, pss_cons (ps_if (pt_not (pt_val (pe_call GO (hr.mono (by decide)) (by rfl) gO FO.kp bO .nil pass0 (pa_cons (pv 1) pa_nil)))) (pss_one (ps_ret (pe_lst (pa_cons (pe_un un_neg pe_int) pa_nil)))) pss_nil)
      (pss_cons (ps_set (i := 2) scPlain.nd rfl (.inl rfl) (pv 1))
      (pss_cons (ps_set (i := 3) scPlain.nd rfl (.inl rfl) (pe_op op_rep (pe_lst (pa_cons pe_int pa_nil)) (pe_callB call_len_seq (by rfl) T.len PySem.boot_len (pa_cons (pe_fld (pv 0) rfl) pa_nil))))
      (pss_cons (ps_for PassesOwn.never rfl (pi_list (pe_meth0 (pv 0) T.cl mL GL hr bL .nil pass0)) (pg_name (i := 4) scPlain.nd rfl (.inl rfl))
        (pss_cons (ps_set (i := 5) scPlain.nd rfl (.inl rfl) (pe_ix ix_list (pe_fld (pv 0) rfl) (pv 4) (fun _ _ => rfl)))
        (pss_cons (ps_asg (pe_callB (call_min2 rfl) (by rfl) T.min (by decide +kernel) (pa_cons (pe_ix ix_list (pe_fld (pv 0) rfl) (pv 4) (fun _ _ => rfl)) (pa_cons (pe_op op_fdivN (pv 2) (pv 5)) pa_nil))) (pg_sub (pv 3) (pv 4) set_list))
        (pss_one (ps_set (i := 2) scPlain.nd rfl (.inl rfl) (pe_op op_sub (pv 2) (pe_op op_mul (pe_ix ix_list (pv 3) (pv 4) (fun _ _ => rfl)) (pv 5))))))))
      (pss_one (ps_ret (pe_op op_cat (pe_lst (pa_cons (pv 2) (pa_cons (pe_callB (cr_sum rfl) (by rfl) T.sum (by decide +kernel) (pa_cons (pv 3) pa_nil)) pa_nil))) (pv 3))))))), ?_⟩
    refine ⟨_, rfl, _, rfl, _, rfl, ite_not (fun h1 => ?_) fun h1 => ?_⟩
    · refine ⟨1, rfl, line1, fun p np => q _ p (ExtN.of (same_new np)) (tabs_same hT (same_new np)) (fun b o e _ => ne_of_none e np) ?_⟩
      rw [plain_bad (order_no h1)]
      exact upd_same
    · have h1 := order_yes h1
      have hlen : (vn (CM.szs c)).length = c.length := by rw [vn_len, CM.szs_len]
      have h4 := hW.len
      refine ⟨_, rfl, line1, fun z nz => ?_⟩
      have sz := same_new (o := .lst [V.int 0]) nz
      have hCz := hC.same sz
      refine ⟨_, rfl, x, C, dx, _, _, rfl, hCz.ins, T.cl, T.nZ, cF_sizes a1 a2, a1, _, rfl, .inl (sq_of hCz.szs), z, _, _, rfl, rfl, upd_same, by omega, by omega, line_of ?_, fun p3 n3 => ?_⟩
      · rw [hlen, Int.toNat_natCast]
        show 1 * c.length ≤ _
        omega
      rw [hlen, Int.toNat_natCast, rep_zero]
      have s3 := same_new (o := .lst (vn (Sj07.ints (List.replicate c.length 0)))) n3
      have hC3 := hCz.same s3
      have np3 : H p3 = none := upd_none n3
      refine ⟨_, rfl, x, dx, _, rfl, hC3.ins, cF_no (by decide +kernel) (by decide +kernel) a1 a2, x, dx, a1, a2, c, rfl, hC3, hW, tabs_same (tabs_same hT sz) s3, fun H1 L eN T1 fr hL => ?_⟩
      have nL : p3 ≠ L := fr p3 _ upd_same fun ps z => by cases z
      have e0 : ExtN H H1 := ExtN.trans (ExtN.of (sz.trans s3)) eN
      have hp3 := eN _ _ (upd_same (H := upd H z (.lst [V.int 0])) (a := p3) (o := .lst (vn (Sj07.ints (List.replicate c.length 0))))) fun ps z => by cases z
      have x3 : ∀ {b : Addr} {o : HO}, H b = some o → b ≠ p3 := fun e => ne_of_none e np3
      have sl := CM.sorted_len c
      refine ⟨L, rfl, ⟨_, sq_of hL⟩, for_list (K := K) (a := L) (xs := vn (Sj07.ints (Sj07.sorted c))) (fun i σ H' => ∃ (v' : Nat) (pl : List Nat) (y4 y5 : Option V), ((Sj07.sorted c).take i).foldl (CM.pstep c) (v, List.replicate c.length 0) = (v', pl) ∧ σ = [some (.ref x), some (.int (v : Int)), some (.int (v' : Int)), some (.ref p3), y4, y5] ∧ ExtN H H' ∧ Tabs (lamT tb) H' ∧
          H' L = some (.lst (vn (Sj07.ints (Sj07.sorted c)))) ∧ H' p3 = some (.lst (vn (Sj07.ints pl))))
        ⟨v, List.replicate c.length 0, none, none, rfl, rfl, e0, T1, hL, hp3⟩ (fun i σ H' _ ⟨_, _, _, _, _, _, _, _, h, _⟩ => sq_of h) ?_ ?_⟩
      · rintro i y σ H' hi ⟨v', pl, y4, y5, hf, rfl, e1, t1, hL1, hp1⟩
        obtain ⟨n, hn, rfl⟩ := ints_some hi
        have hnc : n < c.length := CM.sorted_mem (List.mem_of_getElem? hn)
        have hk := CM.getD_ok hW hnc
        have hCi := hC.extN e1
        have hpl : pl.length = c.length := by
          have := CM.pstep_len c ((Sj07.sorted c).take i) (v, List.replicate c.length 0)
          rw [hf, List.length_replicate] at this
          exact this
        have hlt : n < pl.length := by omega
        refine ⟨_, rfl, x, C, dx, _, _, rfl, hCi.ins, T.cl, T.nZ, cF_sizes a1 a2, _, rfl, a1, _, _, _, rfl, rfl, sq_of hCi.szs, atI_nat (vn_at (CM.szs_at hnc)), ?_⟩
        refine ⟨_, rfl, x, C, dx, _, _, rfl, hCi.ins, T.cl, T.nS, cF_stock a1 a2, _, rfl, a2, _, _, _, rfl, rfl, sq_of hCi.stk, atI_nat (vn_at (CM.stk_at hnc)), _, rfl, _, rfl, _, _, rfl, rfl, ⟨by omega, by omega⟩, _, _, rfl, ?_⟩
        rw [fdiv_nat, min_nat]
        generalize hm : min (c.getD n ⟨0, 0⟩).stock (v' / (c.getD n ⟨0, 0⟩).size) = m
        refine ⟨_, rfl, _, rfl, p3, _, _, n, rfl, rfl, hp1, ix_at (by rw [vn_len, CM.ints_len]; exact hlt), ?_⟩
        rw [ints_set]
        have hgt : (vn (Sj07.ints (pl.set n m)))[n]? = some (V.int (m : Int)) := ints_at (by rw [List.getElem?_set_self hlt])
        refine ⟨_, rfl, _, rfl, _, rfl, p3, _, _, _, rfl, rfl, sq_of upd_same, atI_nat hgt, _, rfl, _, _, rfl, rfl, .inr ⟨by omega, by omega⟩, _, _, rfl, rfl, ?_⟩
        have hmul : m * (c.getD n ⟨0, 0⟩).size ≤ v' := by
          rw [← hm]
          exact Nat.le_trans (Nat.mul_le_mul_right _ (Nat.min_le_right _ _)) (Nat.div_mul_le_self _ _)
        have hsub : (v' : Int) - (m : Int) * ((c.getD n ⟨0, 0⟩).size : Int) = ((v' - m * (c.getD n ⟨0, 0⟩).size : Nat) : Int) := by
          rw [Int.ofNat_sub hmul, Int.natCast_mul]
        refine ⟨v' - m * (c.getD n ⟨0, 0⟩).size, pl.set n m, some (.int (n : Int)), some (.int ((c.getD n ⟨0, 0⟩).size : Int)), ?_, ?_, fun b o e hne => (upd_ne (x3 e)).trans (e1 _ _ e hne), tabs_put t1 hp1, (upd_ne nL.symm).trans hL1, upd_same⟩
        · rw [take_snoc hn, List.foldl_append, hf, ← hm]
          rfl
        · show [_, _, some (V.int ((v' : Int) - (m : Int) * ((c.getD n ⟨0, 0⟩).size : Int))), _, _, _] = _
          rw [hsub]
      · rintro σ H' ⟨v', pl, y4, y5, hf, rfl, e1, t1, hL1, hp1⟩
        rw [vn_len, CM.ints_len, List.take_length, CM.plain_eq hW] at hf
        obtain ⟨rfl, rfl⟩ := Prod.mk.inj hf
        refine ⟨_, rfl, .ref p3, rfl, p3, Sj07.ints (Sj07.plain c v).1, rfl, sq_of hp1, line2, fun q1 n1 => ?_⟩
        have s1 := same_new (o := .lst [V.int (((Sj07.plain c v).2 : Nat) : Int), V.int (Sj07.ints (Sj07.plain c v).1).sum]) n1
        have hll : (Sj07.plain c v).1.length = c.length := by
          show ((List.range c.length).map _).length = c.length
          rw [List.length_map, List.length_range]
        refine ⟨.ref p3, rfl, q1, p3, _, _, rfl, rfl, upd_same, s1 _ _ hp1, line_of (by rw [vn_len, CM.ints_len]; show 2 + _ ≤ _; omega), fun q2 n2 => ?_⟩
        have s2 := same_new (o := .lst ([V.int (((Sj07.plain c v).2 : Nat) : Int), V.int (Sj07.ints (Sj07.plain c v).1).sum] ++ vn (Sj07.ints (Sj07.plain c v).1))) n2
        refine q _ q2 (ExtN.trans e1 (ExtN.of (s1.trans s2))) (tabs_same t1 (s1.trans s2)) (fun b o e hn => ne_of_none (s1 _ _ (e1 _ _ e hn)) n2) ?_
        rw [plain_ok h1]
        refine upd_same.trans ?_
        rw [CM.ints_sum]
        rfl
end
end CD

/-! ## D9 -/
set_option Elab.async false
set_option linter.all false
set_option maxRecDepth 100000
set_option maxHeartbeats 4000000
namespace CD
open PySem PySem.Spec PyProof.Rows L2 LamX NdefX CR
open Sj07 (Cellar Call)
theorem eq_yes {n : Int} {A B : Prop} (h : A) : if decide (V.int n = V.int n) = true then A else B := by
  rw [if_pos (decide_eq_true rfl)]
  exact h
theorem eq_no {n m : Int} {A B : Prop} (hne : n ≠ m) (h : B) : if decide (V.int n = V.int m) = true then A else B := by
  rw [if_neg fun z => hne (V.int.inj (of_decide_eq_true z))]
  exact h
theorem tabs_keep {T : List (Addr × Str)} {H H' : Hp} (t : Tabs T H) (k : ∀ b o, H b = some o → (∀ xs, o ≠ .lst xs) → (∀ C dx fs, o ≠ .ins C dx fs) → H' b = some o) : Tabs T H' := fun d hd => by
  obtain ⟨ps, h1, h2, h3⟩ := t d hd
  refine ⟨ps, k _ _ h1 (fun xs z => by cases z) (fun C dx fs z => by cases z), h2, fun pos cv hc => ?_⟩
  obtain ⟨c, e1, e2⟩ := h3 pos cv hc
  exact ⟨c, e1, k _ _ e2 (fun xs z => by unfold CodeO at z; cases z) fun C dx fs z => by unfold CodeO at z; cases z⟩
theorem st_check (c : Cellar) (v : Nat) (l : List Nat) : (Sj07.step c (.check v l)).1 = c := by
  by_cases h : v < 1 ∨ 1500 < v ∨ Sj07.can c l = false
  · rw [check_bad h]
  · by_cases h2 : Sj07.holds c l < v
    · rw [check_less h h2]
    · rw [check_ok h h2]
theorem st_full (c : Cellar) (v : Nat) : (Sj07.step c (.full v)).1 = c := by
  by_cases h : v < 1 ∨ 1500 < v
  · rw [full_bad h]
  · rw [full_ok h]
theorem st_fewest (c : Cellar) (v : Nat) : (Sj07.step c (.fewest v)).1 = c := by
  by_cases h : v < 1 ∨ 1500 < v
  · rw [fewest_bad h]
  · rw [fewest_ok h]
theorem st_never (c : Cellar) (v : Nat) : (Sj07.step c (.never v)).1 = c := by
  by_cases h : v < 1 ∨ 1500 < v
  · rw [never_bad h]
  · rw [never_ok h]
theorem st_plain (c : Cellar) (v : Nat) : (Sj07.step c (.plain v)).1 = c := by
  by_cases h : v < 1 ∨ 1500 < v
  · rw [plain_bad h]
  · rw [plain_ok h]
/-- nothing that stands in H, but a table, is at b -/
def Fr (H : Hp) (b : Addr) : Prop := ∀ d o, H d = some o → (∀ ps, o ≠ .tbl ps) → d ≠ b
theorem Fr.of {H : Hp} {b : Addr} (h : H b = none) : Fr H b := fun d o e _ => ne_of_none e h
/-- the loop of answers, at the place i -/
def RunAt (C : Addr) (TT : List (Addr × Str)) (H : Hp) (a x dx t : Addr) (ns : List Int) (i : Nat) (σ : L2.St) (H' : Hp) : Prop := ∃ (cs : List (List (List Int))) (c : Cellar) (out : List Int) (b1 b2 : Addr) (y4 y5 y6 : Option V), CM.Mid ns i cs c out ∧ σ = [some (.ref a), some (.ref x), some (.ref t), some (.int (i : Int)), y4, y5, y6] ∧ CellarAt C H' x dx b1 b2 c ∧
  H' t = some (.lst (vn out)) ∧ t ≠ b1 ∧ t ≠ b2 ∧ ExtN H H' ∧ Fr H b1 ∧ Fr H b2 ∧ Tabs TT H'
/-- the methods' promises, together -/
structure Meths (P : Program) (w : World) (K : PySem.W.Frag) (mg : Str → Option Value) (base : Heap) (C : Addr) (T : List (Addr × Str)) : Prop where
  begins : ∃ f fd, FnOk P w K mg base CX0 1 f fd ["self"] (spBegins C) ∧ L2.Binds K fd ["self"] [] ∧ Meth K C "begins" f
  kind : ∃ f fd, FnOk P w K mg base CX0 1 f fd ["self", "size", "many"] (spKind C) ∧ L2.Binds K fd ["self", "size", "many"] [] ∧ Meth K C "kind" f
  check : ∃ f fd, FnOk P w K mg base CX0 2 f fd ["self", "order", "plan"] (spRead K C (argCheck K)) ∧ L2.Binds K fd ["self", "order", "plan"] [] ∧ Meth K C "check" f
  full : ∃ f fd, FnOk P w K mg base CX0 3 f fd ["self", "order"] (spRead K C argFull) ∧ L2.Binds K fd ["self", "order"] [] ∧ Meth K C "full" f
  fewest : ∃ f fd, FnOk P w K mg base CX0 3 f fd ["self", "order"] (spRead K C argFewest) ∧ L2.Binds K fd ["self", "order"] [] ∧ Meth K C "fewest" f
  never : ∃ f fd, FnOk P w K mg base CX0 3 f fd ["self", "most"] (spRead K C argNever) ∧ L2.Binds K fd ["self", "most"] [] ∧ Meth K C "never" f
  plain : ∃ f fd, FnOk P w K mg base CX0 5 f fd ["self", "order"] (spPlain C T) ∧ L2.Binds K fd ["self", "order"] [] ∧ Meth K C "plain" f
section
variable {P : Program} {w : World} {K : PySem.W.Frag} {mg : Str → Option Value} {base : Heap} {C : Addr}
theorem ok_to {f : Addr} {fd : FuncData} {TT : List (Addr × Str)} (F : Fun K "answer_to" "answer_to" sTo f fd) (T : Txt K mg C) (M : Meths P w K mg base C TT) : FnOk P w K mg base CX0 6 f fd ["cellar", "call", "numbers"] (spTo K C TT) := by
  obtain ⟨t0, h0⟩ := T.c0
  obtain ⟨t1, h1⟩ := T.c1
  obtain ⟨t2, h2⟩ := T.c2
  obtain ⟨t3, h3⟩ := T.c3
  obtain ⟨t4, h4⟩ := T.c4
  obtain ⟨t5, h5⟩ := T.c5
  obtain ⟨t6, h6⟩ := T.c6
  obtain ⟨f0, fd0, G0, b0, m0⟩ := M.begins
  obtain ⟨f1, fd1, G1, b1, m1⟩ := M.kind
  obtain ⟨f2, fd2, G2, b2, m2⟩ := M.check
  obtain ⟨f3, fd3, G3, b3, m3⟩ := M.full
  obtain ⟨f4, fd4, G4, b4, m4⟩ := M.fewest
  obtain ⟨f5, fd5, G5, b5, m5⟩ := M.never
  obtain ⟨f6, fd6, G6, b6, m6⟩ := M.plain
  refine F.ok scTo (fun vs H Q E h => ?_) (fun cdv A outer s H vs Q E hr h => ?_)
  · obtain ⟨x, dx, a1, a2, nb, c, p, ns, cl, rfl, _⟩ := h
    rfl
  · obtain ⟨x, dx, a1, a2, nb, c, p, ns, cl, rfl, hC, hW, hS, hsh, hT, q⟩ := h
    refine ⟨_, pss_cons (ps_if (pt_cmpR op_eq (pv 1) (pe_num (by rfl) h0) (nomark _)) (pss_one (ps_ret (pe_meth0 (pv 0) T.cl m0 G0 (hr.mono (by decide)) b0 .nil pass0))) pss_nil)
      (pss_cons (ps_if (pt_cmpR op_eq (pv 1) (pe_num (by rfl) h1) (nomark _)) (pss_one (ps_ret (pe_meth (pv 0) T.cl m1 G1 (hr.mono (by decide)) b1 .nil pass0 (pa_cons (pe_ix ix_list (pv 2) pe_int (fun _ _ => rfl)) (pa_cons (pe_ix ix_list (pv 2) pe_int (fun _ _ => rfl)) pa_nil))))) pss_nil)
      (pss_cons (ps_if (pt_cmpR op_eq (pv 1) (pe_num (by rfl) h2) (nomark _)) (pss_one (ps_ret (pe_meth (pv 0) T.cl m2 G2 (hr.mono (by decide)) b2 .nil pass0 (pa_cons (pe_ix ix_list (pv 2) pe_int (fun _ _ => rfl)) (pa_cons (pe_slice sl_list (pv 2) (po_some pe_int) po_none) pa_nil))))) pss_nil)
      (pss_cons (ps_if (pt_cmpR op_eq (pv 1) (pe_num (by rfl) h3) (nomark _)) (pss_one (ps_ret (pe_meth (pv 0) T.cl m3 G3 (hr.mono (by decide)) b3 .nil pass0 (pa_cons (pe_ix ix_list (pv 2) pe_int (fun _ _ => rfl)) pa_nil)))) pss_nil)
      (pss_cons (ps_if (pt_cmpR op_eq (pv 1) (pe_num (by rfl) h4) (nomark _)) (pss_one (ps_ret (pe_meth (pv 0) T.cl m4 G4 (hr.mono (by decide)) b4 .nil pass0 (pa_cons (pe_ix ix_list (pv 2) pe_int (fun _ _ => rfl)) pa_nil)))) pss_nil)
      (pss_cons (ps_if (pt_cmpR op_eq (pv 1) (pe_num (by rfl) h5) (nomark _)) (pss_one (ps_ret (pe_meth (pv 0) T.cl m5 G5 (hr.mono (by decide)) b5 .nil pass0 (pa_cons (pe_ix ix_list (pv 2) pe_int (fun _ _ => rfl)) pa_nil)))) pss_nil)
      (pss_cons (ps_if (pt_cmpR op_eq (pv 1) (pe_num (by rfl) h6) (nomark _)) (pss_one (ps_ret (pe_meth (pv 0) T.cl m6 G6 hr b6 .nil pass0 (pa_cons (pe_ix ix_list (pv 2) pe_int (fun _ _ => rfl)) pa_nil)))) pss_nil)
      (pss_one ps_never))))))), ?_⟩
    have keep : ∀ {H'}, Same H H' → ∀ r, H r = none → CellarAt C H' x dx a1 a2 (Sj07.step c cl).1 → H' r = some (.lst (vn (CM.toldA (Sj07.step c cl).2))) → Q (.ref r) H' := fun {H'} sm r nr hC' hr => q H' r a1 a2 hC' (.inl rfl) (.inl rfl) (fun b o e _ _ _ _ => sm _ _ e) (tabs_same hT sm) (fun b o e _ => ne_of_none e nr) hr
    cases hsh with
    | begins =>
      refine ⟨_, rfl, rfl, _, rfl, eq_yes ⟨_, rfl, x, dx, _, rfl, hC.ins, cF_no (by decide +kernel) (by decide +kernel) a1 a2, x, dx, a1, a2, c, rfl, hC, fun H' d1 d2 r hC' n1 n2 kp nr hr => ?_⟩⟩
      refine q H' r d1 d2 hC' (.inr n1) (.inr n2) (fun b o e _ hx _ _ => kp b o e hx) (tabs_keep hT fun b o e _ ni => kp b o e fun z => ?_) (fun b o e _ => ne_of_none e nr) hr
      rw [z, hC.ins] at e
      cases e
      exact ni _ _ _ rfl
    | kind s' n hs hn =>
      refine ⟨_, rfl, rfl, _, rfl, eq_no (by decide) ⟨_, rfl, rfl, _, rfl, eq_yes ⟨_, rfl, x, dx, _, rfl, hC.ins, cF_no (by decide +kernel) (by decide +kernel) a1 a2, _, rfl, nb, _, 0, _, rfl, rfl, hS, atI_nat (j := 0) rfl, _, rfl, nb, _, 1, _, rfl, rfl, hS, atI_nat (j := 1) rfl, x, dx, a1, a2, c, s', n, rfl, hC, hW, fun H' r hC' kp nr hr => ?_⟩⟩⟩
      refine q H' r a1 a2 hC' (.inl rfl) (.inl rfl) (fun b o e _ _ z1 z2 => kp b o e z1 z2) (tabs_keep hT fun b o e nl _ => kp b o e (fun z => ?_) fun z => ?_) (fun b o e _ => ne_of_none e nr) hr
      · rw [z, hC.szs] at e
        cases e
        exact nl _ rfl
      · rw [z, hC.stk] at e
        cases e
        exact nl _ rfl
    | check v r hv hr32 hl =>
      refine ⟨_, rfl, rfl, _, rfl, eq_no (by decide) ⟨_, rfl, rfl, _, rfl, eq_no (by decide) ⟨_, rfl, rfl, _, rfl, eq_yes ⟨_, rfl, x, dx, _, rfl, hC.ins, cF_no (by decide +kernel) (by decide +kernel) a1 a2, _, rfl, nb, _, 0, _, rfl, rfl, hS, atI_nat (j := 0) rfl, _, rfl, 1, rfl, nb, _, rfl, hS, fun p1 n1 => ?_⟩⟩⟩⟩
      have s1 := same_new (o := .lst (cutV (vn ((v : Int) :: Sj07.ints r)) (some 1) none)) n1
      have e1 : cutV (vn ((v : Int) :: Sj07.ints r)) (some 1) none = vn (Sj07.ints r) := (cut_from _ 1).trans rfl
      refine ⟨x, dx, a1, a2, c, _, .check v r, rfl, hC.same s1, hW, ⟨v, r, p1, rfl, sq_of (upd_same.trans (by rw [e1])), hl, rfl⟩, fun H' r' s2 nr hr' => ?_⟩
      refine keep (s1.trans s2) r' (Same.free s1 nr) ?_ hr'
      rw [st_check]
      exact hC.same (s1.trans s2)
    | full v hv =>
      refine ⟨_, rfl, rfl, _, rfl, eq_no (by decide) ⟨_, rfl, rfl, _, rfl, eq_no (by decide) ⟨_, rfl, rfl, _, rfl, eq_no (by decide) ⟨_, rfl, rfl, _, rfl, eq_yes ⟨_, rfl, x, dx, _, rfl, hC.ins, cF_no (by decide +kernel) (by decide +kernel) a1 a2, _, rfl, nb, _, 0, _, rfl, rfl, hS, atI_nat (j := 0) rfl,
        x, dx, a1, a2, c, _, .full v, rfl, hC, hW, ⟨v, rfl, rfl⟩, fun H' r' s2 nr hr' => keep s2 r' nr ?_ hr'⟩⟩⟩⟩⟩
      rw [st_full]
      exact hC.same s2
    | fewest v hv =>
      refine ⟨_, rfl, rfl, _, rfl, eq_no (by decide) ⟨_, rfl, rfl, _, rfl, eq_no (by decide) ⟨_, rfl, rfl, _, rfl, eq_no (by decide) ⟨_, rfl, rfl, _, rfl, eq_no (by decide) ⟨_, rfl, rfl, _, rfl, eq_yes ⟨_, rfl, x, dx, _, rfl, hC.ins, cF_no (by decide +kernel) (by decide +kernel) a1 a2, _, rfl, nb, _, 0, _, rfl, rfl, hS, atI_nat (j := 0) rfl,
        x, dx, a1, a2, c, _, .fewest v, rfl, hC, hW, ⟨v, rfl, rfl⟩, fun H' r' s2 nr hr' => keep s2 r' nr ?_ hr'⟩⟩⟩⟩⟩⟩
      rw [st_fewest]
      exact hC.same s2
    | never v hv =>
      refine ⟨_, rfl, rfl, _, rfl, eq_no (by decide) ⟨_, rfl, rfl, _, rfl, eq_no (by decide) ⟨_, rfl, rfl, _, rfl, eq_no (by decide) ⟨_, rfl, rfl, _, rfl, eq_no (by decide) ⟨_, rfl, rfl, _, rfl, eq_no (by decide) ⟨_, rfl, rfl, _, rfl, eq_yes ⟨_, rfl, x, dx, _, rfl, hC.ins, cF_no (by decide +kernel) (by decide +kernel) a1 a2, _, rfl, nb, _, 0, _, rfl, rfl, hS, atI_nat (j := 0) rfl,
        x, dx, a1, a2, c, _, .never v, rfl, hC, hW, ⟨v, rfl, rfl⟩, fun H' r' s2 nr hr' => keep s2 r' nr ?_ hr'⟩⟩⟩⟩⟩⟩⟩
      rw [st_never]
      exact hC.same s2
    | plain v hv =>
      refine ⟨_, rfl, rfl, _, rfl, eq_no (by decide) ⟨_, rfl, rfl, _, rfl, eq_no (by decide) ⟨_, rfl, rfl, _, rfl, eq_no (by decide) ⟨_, rfl, rfl, _, rfl, eq_no (by decide) ⟨_, rfl, rfl, _, rfl, eq_no (by decide) ⟨_, rfl, rfl, _, rfl, eq_no (by decide) ⟨_, rfl, rfl, _, rfl, eq_yes ⟨_, rfl, x, dx, _, rfl, hC.ins, cF_no (by decide +kernel) (by decide +kernel) a1 a2, _, rfl, nb, _, 0, _, rfl, rfl, hS, atI_nat (j := 0) rfl,
        x, dx, a1, a2, c, v, rfl, hC, hW, hT, fun H' r' eN T' fr hr' => q H' r' a1 a2 ?_ (.inl rfl) (.inl rfl) (fun b o e hn _ _ _ => eN _ _ e hn) T' fr hr'⟩⟩⟩⟩⟩⟩⟩⟩
      rw [st_plain]
      exact hC.extN eN
theorem ok_ans {f fI fT : Addr} {fd fdI fdT : FuncData} {TT : List (Addr × Str)} (F : Fun K "answers" "answers" sAns f fd) (T : Txt K mg C) (MK : Mk K C fI) (FI : Fun K "__init__" "Cellar.__init__" sInit fI fdI) (bI : L2.Binds K fdI ["self"] [])
    (FT : Fun K "answer_to" "answer_to" sTo fT fdT) (bT : L2.Binds K fdT ["cellar", "call", "numbers"] []) (gT : mg "answer_to" = some (.ref fT)) (M : Meths P w K mg base C TT) : FnOk P w K mg base CX0 7 f fd ["calls"] (spAns K TT) := by
  have GI : FnOk P w K mg base CX0 1 fI fdI ["self"] (spInit C) := ok_init FI T
  have GT : FnOk P w K mg base CX0 6 fT fdT ["cellar", "call", "numbers"] (spTo K C TT) := ok_to FT T M
  refine F.ok scAns (fun vs H Q E h => ?_) (fun cdv A outer s H vs Q E hr h => ?_)
  · obtain ⟨a, ns, rfl, _⟩ := h
    rfl
  · obtain ⟨a, ns, rfl, hS, hask, hT, q⟩ := h
    refine ⟨_, pss_cons (ps_set (i := 1) scAns.nd rfl (.inl rfl) (pe_make0 MK GI (hr.mono (by decide)) rfl T.gC bI .nil pass0))
      (pss_cons (ps_set (i := 2) scAns.nd rfl (.inl rfl) (pe_lst pa_nil))
      (pss_cons (ps_set (i := 3) scAns.nd rfl (.inl rfl) pe_int)
      (pss_cons (ps_while PassesOwn.never (pt_cmpR op_lt (pv 3) (pe_callB call_len_seq (by rfl) T.len PySem.boot_len (pa_cons (pv 0) pa_nil)) (nomark _))
        (pss_cons (ps_set (i := 4) scAns.nd rfl (.inl rfl) (pe_op op_add (pv 3) pe_int))
        (pss_cons (ps_set (i := 5) scAns.nd rfl (.inl rfl) (pe_op op_add (pv 4) (pe_ix ix_list (pv 0) (pe_op op_add (pv 3) pe_int) (fun _ _ => rfl))))
        (pss_cons (ps_set (i := 6) scAns.nd rfl (.inl rfl) (pe_call GT hr (by rfl) gT FT.kp bT .nil pass0 (pa_cons (pv 1) (pa_cons (pe_ix ix_list (pv 0) (pv 3) (fun _ _ => rfl)) (pa_cons (pe_slice sl_list (pv 0) (po_some (pv 4)) (po_some (pv 5))) pa_nil)))))
        (pss_cons (ps_expr (pe_bm PySem.F.plainAttrs_list PySem.F.slot_list_append PySem.F.type_list_append mt_append (pv 2) (pa_cons (pe_callB call_len_seq (by rfl) T.len PySem.boot_len (pa_cons (pv 6) pa_nil)) pa_nil)))
        (pss_cons (ps_expr (pe_bm PySem.F.plainAttrs_list PySem.F.slot_list_extend PySem.F.type_list_extend mt_extend (pv 2) (pa_cons (pv 6) pa_nil)))
        (pss_one (ps_set (i := 3) scAns.nd rfl (.inl rfl) (pe_op op_add (pv 5) pe_int)))))))))
      (pss_one (ps_ret (pv 2)))))), ?_⟩
    intro x dx nx nd ne
    refine ⟨x, dx, rfl, upd_same, fun H1 a1 a2 hC1 m1 m2 kp => ⟨rfl, ?_⟩⟩
    have s1 : Same H H1 := Same.made nx nd kp
    refine ⟨line0, fun t nt => ?_⟩
    have s2 := same_new (o := .lst []) nt
    obtain ⟨cs0, mid0⟩ := CM.mid_start hask
    have fx : Fr H x := Fr.of nx
    have ft : Fr H t := Fr.of (Same.free s1 nt)
    refine ⟨fun m σ H' => ∃ i : Nat, m = ns.length - i ∧ RunAt C TT H a x dx t ns i σ H', ⟨ns.length - 0, 0, rfl, cs0, [], [], a1, a2, none, none, none, mid0, rfl, hC1.same s2, upd_same, (ne_of_none hC1.szs nt).symm, (ne_of_none hC1.stk nt).symm, ExtN.of (s1.trans s2), Fr.of (upd_none (upd_none m1)), Fr.of (upd_none (upd_none m2)), tabs_same hT (s1.trans s2)⟩, ?_⟩
    rintro m σ H' ⟨i, rfl, cs, c, out, b1, b2, y4, y5, y6, mid, rfl, hC, ht, tb1, tb2, eN, f1, f2, hT'⟩
    have hS' := seq_ext eN hS
    refine ⟨_, rfl, .ref a, rfl, a, _, rfl, .inl hS', _, _, rfl, rfl, _, rfl, ite2 (fun hlt => ?_) fun hge => ?_⟩
    · have hlt : i < ns.length := by
        have := of_decide_eq_true hlt
        rw [vn_len] at this
        omega
      obtain ⟨p, xs, cl, cs', e1, e2, hin, exs, hsh, mid', hshort⟩ := CM.mid_next mid hlt
      refine ⟨RunAt C TT H a x dx t ns (i + 2 + xs.length + 1), fun σ' H2 hN => ⟨ns.length - (i + 2 + xs.length + 1), by omega, _, rfl, hN⟩, ?_⟩
      refine ⟨_, rfl, _, 2, rfl, rfl, ?_⟩
      refine ⟨_, rfl, .ref a, rfl, _, rfl, _, 1, rfl, rfl, a, _, _, _, rfl, rfl, hS', at_of (j := i + 1) (by omega) (vn_at e2), _, _, rfl, rfl, ?_⟩
      refine ⟨_, rfl, .ref a, rfl, _, rfl, a, _, _, _, rfl, rfl, hS', atI_nat (vn_at e1), .ref a, rfl, _, rfl, _, rfl, _, rfl, _, rfl, a, _, rfl, hS', fun nb nnb => ?_⟩
      have ecut : cutV (vn ns) (some ((i : Int) + 2)) (some ((i : Int) + 2 + (xs.length : Int))) = vn xs := by
        have z1 : (i : Int) + 2 = ((i + 2 : Nat) : Int) := by omega
        have z2 : (i : Int) + 2 + (xs.length : Int) = ((i + 2 + xs.length : Nat) : Int) := by omega
        rw [z2, z1, cut_mid (vn ns) (Nat.le_add_right _ _) (by rw [vn_len]; omega), vn_drop, vn_take]
        congr 1
        rw [← exs]
        congr 1
        · rw [exs]
          omega
      have s3 := same_new (o := .lst (cutV (vn ns) (some ((i : Int) + 2)) (some ((i : Int) + 2 + (xs.length : Int))))) nnb
      refine ⟨x, dx, b1, b2, nb, c, p, xs, cl, rfl, hC.same s3, mid.wf, sq_of (upd_same.trans (by rw [ecut])), hsh, tabs_same hT' s3, fun H2 r d1 d2 hC2 o1 o2 kp t2 fr hr => ?_⟩
      have tx : t ≠ x := (ne_of hC.ins ht (by intro z; cases z)).symm
      have ht2 : H2 t = some (.lst (vn out)) := kp _ _ (s3 _ _ ht) (fun ps z => by cases z) tx tb1 tb2
      have rt : t ≠ r := fr _ _ (s3 _ _ ht) fun ps z => by cases z
      have eN2 : ExtN H H2 := fun b o e hn => kp _ _ (s3 _ _ (eN _ _ e hn)) hn (fx _ _ e hn) (f1 _ _ e hn) (f2 _ _ e hn)
      have g1 : Fr H d1 ∧ t ≠ d1 := by
        rcases o1 with z | z
        · rw [z]
          exact ⟨f1, tb1⟩
        · exact ⟨fun b o e hn => ne_of_none (s3 _ _ (eN _ _ e hn)) z, ne_of_none (s3 _ _ ht) z⟩
      have g2 : Fr H d2 ∧ t ≠ d2 := by
        rcases o2 with z | z
        · rw [z]
          exact ⟨f2, tb2⟩
        · exact ⟨fun b o e hn => ne_of_none (s3 _ _ (eN _ _ e hn)) z, ne_of_none (s3 _ _ ht) z⟩
      rw [List.length_append, List.length_cons] at hshort
      refine ⟨.ref t, rfl, .inl ⟨rfl, _, .inl (.inl ht2)⟩, .ref r, rfl, r, _, rfl, .inl (sq_of hr), t, _, _, rfl, rfl, ht2, line_lt (by rw [vn_len]; omega), ?_⟩
      have hr4 : (upd H2 t (.lst (vn out ++ [V.int ((vn (CM.toldA (Sj07.step c cl).2)).length : Int)]))) r = some (.lst (vn (CM.toldA (Sj07.step c cl).2))) := (upd_ne rt.symm).trans hr
      refine ⟨.ref t, rfl, .inl ⟨rfl, _, .inl (.inl upd_same)⟩, .ref r, rfl, t, r, _, _, rfl, rfl, upd_same, hr4, line_of (by rw [List.length_append, vn_len, vn_len]; show out.length + 1 + _ ≤ _; omega), ?_⟩
      refine ⟨_, rfl, _, 1, rfl, rfl, ?_⟩
      rw [upd_upd]
      refine ⟨cs', (Sj07.step c cl).1, _, d1, d2, some (.int ((i : Int) + 2)), some (.int ((i : Int) + 2 + (xs.length : Int))), some (.ref r), mid', ?_, ?_, ?_, g1.2, g2.2, fun b o e hn => (upd_ne (ft _ _ e hn)).trans (eN2 _ _ e hn), g1.1, g2.1, tabs_put t2 ht2⟩
      · show [_, _, _, some (V.int ((i : Int) + 2 + (xs.length : Int) + 1)), _, _, _] = _
        have z : (i : Int) + 2 + (xs.length : Int) + 1 = ((i + 2 + xs.length + 1 : Nat) : Int) := by omega
        rw [z]
      · exact ⟨(upd_ne tx.symm).trans hC2.ins, (upd_ne g1.2.symm).trans hC2.szs, (upd_ne g2.2.symm).trans hC2.stk, hC2.ne⟩
      · refine upd_same.trans ?_
        rw [vn_len, vn_app]
        show some (HO.lst (vn out ++ [_] ++ vn _)) = some (HO.lst (vn out ++ (V.int _ :: vn _)))
        rw [List.append_assoc]
        rfl
    · have hge : ¬ i < ns.length := fun z => hge (decide_eq_true (by rw [vn_len]; omega))
      refine ⟨.ref t, rfl, q H' t ?_⟩
      rw [CM.mid_end mid hge]
      exact ht
end
end CD

/-! ## Ea -/
set_option Elab.async false
set_option linter.all false
set_option maxRecDepth 100000
set_option maxHeartbeats 4000000
/-! a row's end, where one def of the program makes a lambda: its code object's table is known -/
namespace CT
open PySem PySem.Spec PyProof.Rows L2 LamX CD
open PySem.W (OpenSpec Codec WData WellAll ReadsW)
theorem row_call {P : Program} {w : World} {K : PySem.W.Frag} {mg mb : Str → Option Value} {k : Nat} {fa c tb : Addr} {fd : FuncData} {ps : List Str} {sp : Sp} {z : Shared} {vals : List Value} {ds : List WData} {R : PySem.W.WRecords} {cl : Str → Option Addr} {d0 : WData}
    (kin : K.In z.heap) (gns : z.heap.Ns mainGlobals mg) (bns : z.heap.Ns builtinsNs mb) (bbt : ∀ x : Str, x ≠ "__name__" → mb x = bootBuiltins x) (lim : z.heap.NoLimit) (gen : z.gens = #[])
    (tab : z.heap.get? tb = some { cls := .none, data := .fields #[] }) (notK : K.lookup tb = none) (hd : PySem.W.CodeHd z.heap c tb)
    (bmn : ∃ (bm : Addr) (ob : Obj), mg "__builtins__" = some (.ref bm) ∧ bm ≠ builtinsNs ∧ z.heap.get? bm = some ob ∧ ob.cls = .type "module" ∧ ob.dict = some builtinsNs ∧ ob.data = .plain)
    (wel : WellAll w.params z.heap vals ds) (pla : plWs ds = true) (wgt : ∀ d ∈ ds, d.weight ≤ 1048576) (rom : Room k callerA)
    (fn : ∀ base : Heap, K.In base → base.Ns mainGlobals mg → TabB base mg c tb → FnOk P w K mg base CX0 k fa fd ps sp) (bind : ∀ (s : Shared) (us : List Value), us.length = ps.length → BindsTo s fd ⟨us, []⟩ (ps.zip us)) (len : ds.length = ps.length)
    (prm : ∀ (H0 H : Hp) (xs : List V), Same H0 H → H tb = some (.tbl #[]) → DwAll K H0 xs ds → sp xs H (fun v H' => Dw K H' v d0) fun _ _ _ => False) :
    codeAny (model P w) callerA (.call (.ref fa) ⟨vals, []⟩) (fun r y => ∃ u as, r = .ok (.ret u) ∧ ReadsW R cl y.heap u d0 as ∧ OldK z.heap y.heap ∧ y.os = z.os ∧ AllBare y.gens) z := by
  obtain ⟨A, okA, obA⟩ := area_all ds vals wel pla wgt
  have only0 : OnlyF (argH K z.heap A) := argH_only obA
  have hok0 : HOk P w (argH K z.heap A) z.heap := argH_ok obA
  have dw0 := dw_all kin obA ds vals wel pla okA
  have rel := vals_toV okA
  have seq0 : ∀ b u, argH K z.heap A b = some u → K.lookup b = none ∧ ∃ (o : Obj) (vs : Array Value) (n : Nat), z.heap.get? b = some o ∧ o.data = .seq vs n := fun b u e => by
    obtain ⟨hk, vs, _, _, q⟩ := argH_is obA e
    rcases q with ⟨e2, _⟩ | ⟨e2, _⟩
    · exact ⟨hk, _, _, _, e2, rfl⟩
    · exact ⟨hk, _, _, _, e2, rfl⟩
  generalize argH K z.heap A = H0 at only0 hok0 dw0 seq0
  have free0 : H0 tb = none := by
    cases e : H0 tb with
    | none => rfl
    | some u =>
      obtain ⟨_, o, vs, n, e2, e3⟩ := seq0 tb u e
      rw [tab] at e2
      cases e2
      cases e3
  have sam : Same H0 (upd H0 tb (.tbl #[])) := same_new free0
  have atT : (upd H0 tb (.tbl #[])) tb = some (.tbl #[]) := upd_same
  have kinds : ∀ b u, (upd H0 tb (.tbl #[])) b = some u → b = tb ∨ H0 b = some u := fun b u e => by
    by_cases q : b = tb
    · exact .inl q
    · rw [upd_ne q] at e
      exact .inr e
  have hok : HOk P w (upd H0 tb (.tbl #[])) z.heap := fun b u e => by
    rcases kinds b u e with q | q
    · rw [q, upd_same] at e
      cases e
      rw [q]
      exact tab
    · exact (hok0 b u q).stay (fun _ _ _ r => r) (fun d r => sam _ _ r) fun d xs r => sam _ _ r
  have only : ∀ b, (upd H0 tb (.tbl #[])) b = none ∨ b = tb ∨ ∃ o u, (upd H0 tb (.tbl #[])) b = some (.frz o u) := fun b => by
    by_cases q : b = tb
    · exact .inr (.inl q)
    · rw [upd_ne q]
      rcases only0 b with r | r
      · exact .inl r
      · exact .inr (.inr r)
  generalize upd H0 tb (.tbl #[]) = H at sam atT kinds hok only
  have untr : ∀ {b : Addr} {o : Obj}, z.heap.get? b = some o → (∀ vs n, o.data ≠ .seq vs n) → o.data ≠ .fields #[] → H b = none := fun {b o} e h1 h2 => by
    cases q : H b with
    | none => rfl
    | some u =>
      rcases kinds b u q with r | r
      · rw [r, tab] at e
        cases e
        exact absurd rfl h2
      · obtain ⟨_, o2, vs, n, e2, e3⟩ := seq0 b u r
        rw [e] at e2
        cases e2
        exact absurd e3 (h1 vs n)
  have inB : ∀ {b : Addr} {o : Obj}, z.heap.get? b = some o → H b = none → (hidT z.heap H).get? b = some o := fun e n => hidT_get e n
  have nsB : ∀ {b : Addr} {m : Str → Option Value}, z.heap.Ns b m → (hidT z.heap H).Ns b m := fun {b m} h => by
    obtain ⟨o, es, ep, e, d, r⟩ := h
    refine ⟨o, es, ep, inB e (untr e (fun vs n q => ?_) fun q => ?_), d, r⟩
    · rw [d] at q
      cases q
    · rw [d] at q
      cases q
  have kinB : K.In (hidT z.heap H) := fun b o e => inB (kin b o e) (by
    cases q : H b with
    | none => rfl
    | some u =>
      rcases kinds b u q with r | r
      · rw [r, notK] at e
        cases e
      · rw [(seq0 b u r).1] at e
        cases e)
  have modB : L2.Mod K mg (hidT z.heap H) := ⟨kinB, nsB gns, ⟨mb, nsB bns, bbt⟩, by
    obtain ⟨mc, l1, l2⟩ := lim
    exact ⟨mc, nsB l1, l2⟩⟩
  have TB : TabB (hidT z.heap H) mg c tb := by
    refine ⟨?_, ?_, fun q => ?_⟩
    · obtain ⟨o, us, f1, f2, f3, f4, f5, f6, f7, g1, g2, g3, g4, g5, g6, g7, g8, g9, g10⟩ := hd
      refine ⟨o, us, f1, f2, f3, f4, f5, f6, f7, inB g1 (untr g1 (fun vs n q => ?_) fun q => ?_), g2, g3, g4, g5, g6, g7, g8, g9, g10⟩
      · rw [g3] at q
        cases q
      · rw [g3] at q
        cases q
        simp at g4
    · obtain ⟨bm, ob, b1, b2, b3, b4, b5, b6⟩ := bmn
      have n1 : bm ≠ mainGlobals := fun q => by
        obtain ⟨o, es, ep, e, d, _⟩ := gns
        rw [q, e] at b3
        cases b3
        rw [d] at b6
        cases b6
      have n2 : bm ≠ tb := fun q => by
        rw [q, tab] at b3
        cases b3
        cases b6
      refine ⟨bm, ob, b1, b2, n1, n2, inB b3 (untr b3 (fun vs n q => ?_) fun q => ?_), b4, b5, b6⟩
      · rw [b6] at q
        cases q
      · rw [b6] at q
        cases q
    · obtain ⟨o, es, ep, e, d, _⟩ := gns
      rw [q, tab] at e
      cases e
      cases d
  have env : Env0 P w K mg (hidT z.heap H) callerA [] z H := ⟨rfl, modB, fun b o e => of_hidT e, Nat.le_of_eq (hidT_size _ _), trivial, fun b q => absurd (show b ∈ ([] : List Addr) from q) (by simp), hok, .of_eq gen⟩
  have lenV : vals.length = ps.length := (wellAll_len wel).trans len
  refine codeAny_mono ((fn _ kinB (nsB gns) TB).run callerA [] z H ⟨vals, []⟩ vals (vals.map toV) _ _ rom env (bind z vals lenV) rel (prm H0 H _ sam atT dw0)) fun r y h => ?_
  cases r with
  | error e => exact (show False from h).elim
  | ok fl =>
    cases fl with
    | next => exact False.elim h
    | brk => exact False.elim h
    | cont => exact False.elim h
    | ret u =>
      obtain ⟨v, H', os, bare, un, hok', rv, q⟩ := h
      have kept : ∀ b o, b ≠ tb → z.heap.get? b = some o → y.heap.get? b = some o := fun b o nb e => by
        rcases only b with r | r | ⟨ob, u2, r⟩
        · exact un.keep b o e r (fun q => absurd (show b ∈ ([] : List Addr) from q) (by simp)) (by simp)
        · exact absurd r nb
        · obtain ⟨e1, _⟩ := hok b _ r
          obtain ⟨e2, _⟩ := hok' b _ (un.frzs b ob _ r)
          rw [e] at e1
          cases e1
          exact e2
      obtain ⟨more, grown⟩ : ∃ more : Array Value, y.heap.get? tb = some { cls := .none, data := .fields more } := by
        obtain ⟨more, r⟩ := un.tbls tb #[] atT
        exact ⟨_, hok' tb _ r⟩
      have kin' : K.In y.heap := fun b o e => kept b o (fun q => by
        rw [q, notK] at e
        cases e) (kin b o e)
      obtain ⟨as, rd⟩ := Dw.reads (R := R) (cl := cl) hok' kin' d0 v u q rv
      refine ⟨u, as, rfl, rd, ⟨fun b o e => ?_, fun b o e => ?_⟩, os, bare⟩
      · by_cases nb : b = tb
        · rw [nb] at e ⊢
          rw [tab] at e
          cases e
          exact .inr (.inl ⟨(hd.tab tab).isCodeTable, rfl, #[], more, rfl, by rw [Array.empty_append]; exact grown⟩)
        · exact .inl (kept b o nb e)
      · by_cases nb : b = tb
        · rw [nb]
          exact ⟨_, grown⟩
        · exact ⟨o, kept b o nb e⟩
/-- the goal of a head with such a table -/
theorem row_walk {r : OpenSpec} {k : Nat} {q : Program} {loose : List Str} {XP : (Str → Option Value) → Heap → Prop} {YP : World → Heap → Prop} {d : DefRec} {K : Params → PySem.W.Frag} {ps : List Str}
    (wel : r.wellSaid = true) (len : r.args.length = ps.length) (rom : Room k callerA) (kin : ∀ (w : World) (h : Heap), YP w h → (K w.params).In h)
    (fn : ∀ (w : World) (mg : Str → Option Value) (fa : Addr) (h : Heap), YP w h → (K w.params).In h → h.Ns mainGlobals mg → mg d.name = some (.ref fa) →
      ∃ (fd : FuncData) (c tb : Addr) (sp : Sp), (∀ (s : Shared) (us : List Value), us.length = ps.length → BindsTo s fd ⟨us, []⟩ (ps.zip us)) ∧ h.get? tb = some { cls := .none, data := .fields #[] } ∧ (K w.params).lookup tb = none ∧ PySem.W.CodeHd h c tb ∧
        (∀ (H0 H : Hp) (xs : List V) (a : Codec.denoteAll r.args), Codec.withinAll r.args a = true → Codec.app r.args r.asked a = true → Same H0 H → H tb = some (.tbl #[]) → DwAll (K w.params) H0 xs (Codec.encAll r.args a) →
          sp xs H (fun v H' => Dw (K w.params) H' v (r.ret.enc (Codec.app r.args r.f a))) fun _ _ _ => False) ∧
        ∀ base : Heap, (K w.params).In base → base.Ns mainGlobals mg → TabB base mg c tb → FnOk r.prog w (K w.params) mg base CX0 k fa fd ps sp) :
    PySem.W.WalkOS q loose XP YP r d [] (fun g us => PySem.call g us) := by
  intro w s0 s1 mg mb G Y fa o pm cd doc dV kV ho hod hcd hD hmg hg args vals as hpre hlay hrd hwl hlo
  obtain ⟨a, dec, okd⟩ := PySem.W.os_pre_some hpre
  obtain ⟨same, hwi⟩ := Codec.encAll_of_decAll r.args args a dec
  subst same
  have KX := kin w _ Y
  obtain ⟨fd, c, tb, sp, hb, hT, nT, hC, hsp, hF⟩ := fn w mg fa _ Y KX G.T.g hmg
  refine PySem.W.enter_call (codeAny_mono (row_call (R := []) (cl := classAt s0.heap) (d0 := r.ret.enc (Codec.app r.args r.f a)) KX G.T.g G.T.b G.T.builtins G.T.nolimit hg hT nT hC G.T.bmain hwl (pl_encAll _ _) (layable_weight hlay) rom hF hb (by rw [encAll_len]; exact len)
    (fun H0 H xs hs ht hx => hsp H0 H xs a hwi okd hs ht hx)) fun r' y hq => ?_)
  obtain ⟨u, at', rfl, h1, h2, h3, h4⟩ := hq
  exact ⟨.inl ⟨u, _, at', rfl, fun _ => rfl, h1, (OpenSpec.post_iff wel hwi _ _).mpr rfl, fun q => Bool.noConfusion (show false = true from q)⟩, h2, h3, h4⟩
end CT

/-! ## Eb -/
set_option Elab.async false
set_option linter.all false
set_option maxRecDepth 100000
set_option maxHeartbeats 4000000
/-! what the top has written, and the promise of answers from it -/
namespace CD
open PySem PySem.Spec PyProof.Rows L2 LamX

theorem all_mk {P : Program} {w : World} {K : PySem.W.Frag} {h : Heap} {mg : Str → Option Value} {fa C cc f_order f_plans f_best f_to f_ans f_init f_begins f_kind f_check f_full f_fewest f_never f_plain f_fill f_some f_large f_can f_held : Addr} (X : K.In h) (G : h.Ns mainGlobals mg) (hfa : mg "answers" = some (.ref fa))
    {od_order od_plans od_best od_to od_ans od_init od_begins od_kind od_check od_full od_fewest od_never od_plain od_fill od_some od_large od_can od_held an_order an_plans an_best an_to an_ans an_init an_begins an_kind an_check an_full an_fewest an_never an_plain an_fill an_some an_large an_can an_held : Option Addr} {sl_order sl_plans sl_best sl_to sl_ans sl_init sl_begins sl_kind sl_check sl_full sl_fewest sl_never sl_plain sl_fill sl_some sl_large sl_can sl_held : Array (Option Value)} {oc_order kV_order dc_order pm_order ct_order cd_order oc_plans kV_plans dc_plans pm_plans ct_plans cd_plans oc_best kV_best dc_best pm_best ct_best cd_best oc_to kV_to dc_to pm_to ct_to cd_to oc_ans kV_ans dc_ans pm_ans ct_ans cd_ans oc_init kV_init dc_init pm_init ct_init cd_init oc_begins kV_begins dc_begins pm_begins ct_begins cd_begins oc_kind kV_kind dc_kind pm_kind ct_kind cd_kind oc_check kV_check dc_check pm_check ct_check cd_check oc_full kV_full dc_full pm_full ct_full cd_full oc_fewest kV_fewest dc_fewest pm_fewest ct_fewest cd_fewest oc_never kV_never dc_never pm_never ct_never cd_never oc_plain kV_plain dc_plain pm_plain ct_plain cd_plain oc_fill kV_fill dc_fill pm_fill ct_fill cd_fill oc_some kV_some dc_some pm_some ct_some cd_some oc_large kV_large dc_large pm_large ct_large oc_can kV_can dc_can pm_can ct_can cd_can oc_held kV_held dc_held pm_held ct_held cd_held : Value} {t_cO t_cZ t_cM t_cK t_c0 t_c1 t_c2 t_c3 t_c4 t_c5 t_c6 : Tok}
    (aC : PySem.W.nsIn K mainGlobals "Cellar" = some (some (.ref C)))
    (a_order : PySem.W.nsIn K mainGlobals "is_order" = some (some (.ref f_order)))
    (l_order : K.lookup f_order = some ⟨oc_order, od_order, .func (PySem.W.fnOf "is_order" "is_order" (defArgs sOrder) (defBody sOrder) (defScope sOrder) .none kV_order dc_order pm_order an_order cd_order ct_order), sl_order⟩)
    (c_order : PySem.W.codeIn K cd_order "is_order" = true)
    (k_order : PySem.W.keepIn K (.ref f_order) = true)
    (a_plans : PySem.W.nsIn K mainGlobals "plans_of" = some (some (.ref f_plans)))
    (l_plans : K.lookup f_plans = some ⟨oc_plans, od_plans, .func (PySem.W.fnOf "plans_of" "plans_of" (defArgs sPlans) (defBody sPlans) (defScope sPlans) .none kV_plans dc_plans pm_plans an_plans cd_plans ct_plans), sl_plans⟩)
    (c_plans : PySem.W.codeIn K cd_plans "plans_of" = true)
    (k_plans : PySem.W.keepIn K (.ref f_plans) = true)
    (a_best : PySem.W.nsIn K mainGlobals "best_of" = some (some (.ref f_best)))
    (l_best : K.lookup f_best = some ⟨oc_best, od_best, .func (PySem.W.fnOf "best_of" "best_of" (defArgs sBest) (defBody sBest) (defScope sBest) .none kV_best dc_best pm_best an_best cd_best ct_best), sl_best⟩)
    (c_best : PySem.W.codeIn K cd_best "best_of" = true)
    (k_best : PySem.W.keepIn K (.ref f_best) = true)
    (a_to : PySem.W.nsIn K mainGlobals "answer_to" = some (some (.ref f_to)))
    (l_to : K.lookup f_to = some ⟨oc_to, od_to, .func (PySem.W.fnOf "answer_to" "answer_to" (defArgs sTo) (defBody sTo) (defScope sTo) .none kV_to dc_to pm_to an_to cd_to ct_to), sl_to⟩)
    (c_to : PySem.W.codeIn K cd_to "answer_to" = true)
    (k_to : PySem.W.keepIn K (.ref f_to) = true)
    (a_ans : PySem.W.nsIn K mainGlobals "answers" = some (some (.ref f_ans)))
    (l_ans : K.lookup f_ans = some ⟨oc_ans, od_ans, .func (PySem.W.fnOf "answers" "answers" (defArgs sAns) (defBody sAns) (defScope sAns) .none kV_ans dc_ans pm_ans an_ans cd_ans ct_ans), sl_ans⟩)
    (c_ans : PySem.W.codeIn K cd_ans "answers" = true)
    (k_ans : PySem.W.keepIn K (.ref f_ans) = true)
    (a_init : PySem.W.findIn K (.ref C) "__init__" = some (some (.ref f_init)))
    (i_init : PySem.W.isFn K (.ref f_init) = true)
    (l_init : K.lookup f_init = some ⟨oc_init, od_init, .func (PySem.W.fnOf "__init__" "Cellar.__init__" (defArgs sInit) (defBody sInit) (defScope sInit) .none kV_init dc_init pm_init an_init cd_init ct_init), sl_init⟩)
    (c_init : PySem.W.codeIn K cd_init "Cellar.__init__" = true)
    (k_init : PySem.W.keepIn K (.ref f_init) = true)
    (a_begins : PySem.W.findIn K (.ref C) "begins" = some (some (.ref f_begins)))
    (i_begins : PySem.W.isFn K (.ref f_begins) = true)
    (l_begins : K.lookup f_begins = some ⟨oc_begins, od_begins, .func (PySem.W.fnOf "begins" "Cellar.begins" (defArgs sBegins) (defBody sBegins) (defScope sBegins) .none kV_begins dc_begins pm_begins an_begins cd_begins ct_begins), sl_begins⟩)
    (c_begins : PySem.W.codeIn K cd_begins "Cellar.begins" = true)
    (k_begins : PySem.W.keepIn K (.ref f_begins) = true)
    (a_kind : PySem.W.findIn K (.ref C) "kind" = some (some (.ref f_kind)))
    (i_kind : PySem.W.isFn K (.ref f_kind) = true)
    (l_kind : K.lookup f_kind = some ⟨oc_kind, od_kind, .func (PySem.W.fnOf "kind" "Cellar.kind" (defArgs sKind) (defBody sKind) (defScope sKind) .none kV_kind dc_kind pm_kind an_kind cd_kind ct_kind), sl_kind⟩)
    (c_kind : PySem.W.codeIn K cd_kind "Cellar.kind" = true)
    (k_kind : PySem.W.keepIn K (.ref f_kind) = true)
    (a_check : PySem.W.findIn K (.ref C) "check" = some (some (.ref f_check)))
    (i_check : PySem.W.isFn K (.ref f_check) = true)
    (l_check : K.lookup f_check = some ⟨oc_check, od_check, .func (PySem.W.fnOf "check" "Cellar.check" (defArgs sCheck) (defBody sCheck) (defScope sCheck) .none kV_check dc_check pm_check an_check cd_check ct_check), sl_check⟩)
    (c_check : PySem.W.codeIn K cd_check "Cellar.check" = true)
    (k_check : PySem.W.keepIn K (.ref f_check) = true)
    (a_full : PySem.W.findIn K (.ref C) "full" = some (some (.ref f_full)))
    (i_full : PySem.W.isFn K (.ref f_full) = true)
    (l_full : K.lookup f_full = some ⟨oc_full, od_full, .func (PySem.W.fnOf "full" "Cellar.full" (defArgs sFull) (defBody sFull) (defScope sFull) .none kV_full dc_full pm_full an_full cd_full ct_full), sl_full⟩)
    (c_full : PySem.W.codeIn K cd_full "Cellar.full" = true)
    (k_full : PySem.W.keepIn K (.ref f_full) = true)
    (a_fewest : PySem.W.findIn K (.ref C) "fewest" = some (some (.ref f_fewest)))
    (i_fewest : PySem.W.isFn K (.ref f_fewest) = true)
    (l_fewest : K.lookup f_fewest = some ⟨oc_fewest, od_fewest, .func (PySem.W.fnOf "fewest" "Cellar.fewest" (defArgs sFewest) (defBody sFewest) (defScope sFewest) .none kV_fewest dc_fewest pm_fewest an_fewest cd_fewest ct_fewest), sl_fewest⟩)
    (c_fewest : PySem.W.codeIn K cd_fewest "Cellar.fewest" = true)
    (k_fewest : PySem.W.keepIn K (.ref f_fewest) = true)
    (a_never : PySem.W.findIn K (.ref C) "never" = some (some (.ref f_never)))
    (i_never : PySem.W.isFn K (.ref f_never) = true)
    (l_never : K.lookup f_never = some ⟨oc_never, od_never, .func (PySem.W.fnOf "never" "Cellar.never" (defArgs sNever) (defBody sNever) (defScope sNever) .none kV_never dc_never pm_never an_never cd_never ct_never), sl_never⟩)
    (c_never : PySem.W.codeIn K cd_never "Cellar.never" = true)
    (k_never : PySem.W.keepIn K (.ref f_never) = true)
    (a_plain : PySem.W.findIn K (.ref C) "plain" = some (some (.ref f_plain)))
    (i_plain : PySem.W.isFn K (.ref f_plain) = true)
    (l_plain : K.lookup f_plain = some ⟨oc_plain, od_plain, .func (PySem.W.fnOf "plain" "Cellar.plain" (defArgs sPlain) (defBody sPlain) (defScope sPlain) .none kV_plain dc_plain pm_plain an_plain cd_plain ct_plain), sl_plain⟩)
    (c_plain : PySem.W.codeIn K cd_plain "Cellar.plain" = true)
    (k_plain : PySem.W.keepIn K (.ref f_plain) = true)
    (a_fill : PySem.W.findIn K (.ref C) "filling_rows" = some (some (.ref f_fill)))
    (i_fill : PySem.W.isFn K (.ref f_fill) = true)
    (l_fill : K.lookup f_fill = some ⟨oc_fill, od_fill, .func (PySem.W.fnOf "filling_rows" "Cellar.filling_rows" (defArgs sFill) (defBody sFill) (defScope sFill) .none kV_fill dc_fill pm_fill an_fill cd_fill ct_fill), sl_fill⟩)
    (c_fill : PySem.W.codeIn K cd_fill "Cellar.filling_rows" = true)
    (k_fill : PySem.W.keepIn K (.ref f_fill) = true)
    (a_some : PySem.W.findIn K (.ref C) "held_by_some_plan" = some (some (.ref f_some)))
    (i_some : PySem.W.isFn K (.ref f_some) = true)
    (l_some : K.lookup f_some = some ⟨oc_some, od_some, .func (PySem.W.fnOf "held_by_some_plan" "Cellar.held_by_some_plan" (defArgs sSome) (defBody sSome) (defScope sSome) .none kV_some dc_some pm_some an_some cd_some ct_some), sl_some⟩)
    (c_some : PySem.W.codeIn K cd_some "Cellar.held_by_some_plan" = true)
    (k_some : PySem.W.keepIn K (.ref f_some) = true)
    (a_large : PySem.W.findIn K (.ref C) "numbers_largest_first" = some (some (.ref f_large)))
    (i_large : PySem.W.isFn K (.ref f_large) = true)
    (l_large : K.lookup f_large = some ⟨oc_large, od_large, .func (PySem.W.fnOf "numbers_largest_first" "Cellar.numbers_largest_first" (defArgs sLargest) (defBody sLargest) (defScope sLargest) .none kV_large dc_large pm_large an_large (.ref cc) ct_large), sl_large⟩)
    (c_large : PySem.W.codeIn K (.ref cc) "Cellar.numbers_largest_first" = true)
    (k_large : PySem.W.keepIn K (.ref f_large) = true)
    (a_can : PySem.W.findIn K (.ref C) "can_take" = some (some (.ref f_can)))
    (i_can : PySem.W.isFn K (.ref f_can) = true)
    (l_can : K.lookup f_can = some ⟨oc_can, od_can, .func (PySem.W.fnOf "can_take" "Cellar.can_take" (defArgs sCan) (defBody sCan) (defScope sCan) .none kV_can dc_can pm_can an_can cd_can ct_can), sl_can⟩)
    (c_can : PySem.W.codeIn K cd_can "Cellar.can_take" = true)
    (k_can : PySem.W.keepIn K (.ref f_can) = true)
    (a_held : PySem.W.findIn K (.ref C) "held_by" = some (some (.ref f_held)))
    (i_held : PySem.W.isFn K (.ref f_held) = true)
    (l_held : K.lookup f_held = some ⟨oc_held, od_held, .func (PySem.W.fnOf "held_by" "Cellar.held_by" (defArgs sHeld) (defBody sHeld) (defScope sHeld) .none kV_held dc_held pm_held an_held cd_held ct_held), sl_held⟩)
    (c_held : PySem.W.codeIn K cd_held "Cellar.held_by" = true)
    (k_held : PySem.W.keepIn K (.ref f_held) = true)
    (cO : PySem.W.nsIn K mainGlobals "LARGEST_ORDER" = some (some (.int 1500 t_cO)))
    (cZ : PySem.W.nsIn K mainGlobals "LARGEST_SIZE" = some (some (.int 60 t_cZ)))
    (cM : PySem.W.nsIn K mainGlobals "MOST_OF_A_KIND" = some (some (.int 6 t_cM)))
    (cK : PySem.W.nsIn K mainGlobals "MOST_KINDS" = some (some (.int 4 t_cK)))
    (c0 : PySem.W.nsIn K mainGlobals "BEGINS" = some (some (.int 0 t_c0)))
    (c1 : PySem.W.nsIn K mainGlobals "KIND" = some (some (.int 1 t_c1)))
    (c2 : PySem.W.nsIn K mainGlobals "CHECK" = some (some (.int 2 t_c2)))
    (c3 : PySem.W.nsIn K mainGlobals "FULL" = some (some (.int 3 t_c3)))
    (c4 : PySem.W.nsIn K mainGlobals "FEWEST" = some (some (.int 4 t_c4)))
    (c5 : PySem.W.nsIn K mainGlobals "NEVER" = some (some (.int 5 t_c5)))
    (c6 : PySem.W.nsIn K mainGlobals "PLAIN" = some (some (.int 6 t_c6)))
    (z_range : PySem.W.nsIn K mainGlobals "range" = some none)
    (z_len : PySem.W.nsIn K mainGlobals "len" = some none)
    (z_min : PySem.W.nsIn K mainGlobals "min" = some none)
    (z_max : PySem.W.nsIn K mainGlobals "max" = some none)
    (z_sum : PySem.W.nsIn K mainGlobals "sum" = some none)
    (z_all : PySem.W.nsIn K mainGlobals "all" = some none)
    (z_zip : PySem.W.nsIn K mainGlobals "zip" = some none)
    (z_sorted : PySem.W.nsIn K mainGlobals "sorted" = some none)
    (pg : PySem.W.plainGet K C Str.empty = true)
    (hdi : PySem.W.hasDictIn K C = true)
    (po : PySem.W.plainOver K C = true)
    (sa : PySem.W.findIn K (.ref C) "__setattr__" = some (some (.builtin "object.__setattr__")))
    (mk : PySem.W.makesIn K C = true)
    (kc : PySem.W.keepIn K (.ref C) = true)
    (nZ : PySem.W.findIn K (.ref C) "sizes" = some none)
    (nS : PySem.W.findIn K (.ref C) "stock" = some none)
    :
    ∃ fd : FuncData, (∀ (s : Shared) (us : List Value), us.length = (["calls"] : List Str).length → BindsTo s fd ⟨us, []⟩ ((["calls"] : List Str).zip us)) ∧
      ∀ (tb : Addr) (base : Heap), K.In base → base.Ns mainGlobals mg → TabB base mg cc tb → FnOk P w K mg base CX0 7 fa fd ["calls"] (spAns K (lamT tb)) := by
  have e := hfa.symm.trans (PySem.W.mg_of X G a_ans)
  cases e
  have T : Txt K mg C := ⟨⟨pg, hdi, po, sa⟩, nZ, nS, PySem.W.mg_of X G aC, PySem.W.mg_none_of X G z_range, PySem.W.mg_none_of X G z_len, PySem.W.mg_none_of X G z_min, PySem.W.mg_none_of X G z_max, PySem.W.mg_none_of X G z_sum, PySem.W.mg_none_of X G z_all, PySem.W.mg_none_of X G z_zip, PySem.W.mg_none_of X G z_sorted, ⟨_, PySem.W.mg_of X G cO⟩, ⟨_, PySem.W.mg_of X G cZ⟩, ⟨_, PySem.W.mg_of X G cM⟩, ⟨_, PySem.W.mg_of X G cK⟩, ⟨_, PySem.W.mg_of X G c0⟩, ⟨_, PySem.W.mg_of X G c1⟩, ⟨_, PySem.W.mg_of X G c2⟩, ⟨_, PySem.W.mg_of X G c3⟩, ⟨_, PySem.W.mg_of X G c4⟩, ⟨_, PySem.W.mg_of X G c5⟩, ⟨_, PySem.W.mg_of X G c6⟩⟩
  have F_order := fun_mk (st := sOrder) l_order c_order k_order
  have b_order := F_order.binds (ps := ["order"]) fun _ _ _ _ _ _ us hl => match us, hl with | [_], _ => rfl
  have F_plans := fun_mk (st := sPlans) l_plans c_plans k_plans
  have b_plans := F_plans.binds (ps := ["stock"]) fun _ _ _ _ _ _ us hl => match us, hl with | [_], _ => rfl
  have F_best := fun_mk (st := sBest) l_best c_best k_best
  have b_best := F_best.binds (ps := ["rows"]) fun _ _ _ _ _ _ us hl => match us, hl with | [_], _ => rfl
  have F_to := fun_mk (st := sTo) l_to c_to k_to
  have b_to := F_to.binds (ps := ["cellar", "call", "numbers"]) fun _ _ _ _ _ _ us hl => match us, hl with | [_, _, _], _ => rfl
  have F_ans := fun_mk (st := sAns) l_ans c_ans k_ans
  have b_ans := F_ans.binds (ps := ["calls"]) fun _ _ _ _ _ _ us hl => match us, hl with | [_], _ => rfl
  have F_init := fun_mk (st := sInit) l_init c_init k_init
  have b_init := F_init.binds (ps := ["self"]) fun _ _ _ _ _ _ us hl => match us, hl with | [_], _ => rfl
  have F_begins := fun_mk (st := sBegins) l_begins c_begins k_begins
  have b_begins := F_begins.binds (ps := ["self"]) fun _ _ _ _ _ _ us hl => match us, hl with | [_], _ => rfl
  have F_kind := fun_mk (st := sKind) l_kind c_kind k_kind
  have b_kind := F_kind.binds (ps := ["self", "size", "many"]) fun _ _ _ _ _ _ us hl => match us, hl with | [_, _, _], _ => rfl
  have F_check := fun_mk (st := sCheck) l_check c_check k_check
  have b_check := F_check.binds (ps := ["self", "order", "plan"]) fun _ _ _ _ _ _ us hl => match us, hl with | [_, _, _], _ => rfl
  have F_full := fun_mk (st := sFull) l_full c_full k_full
  have b_full := F_full.binds (ps := ["self", "order"]) fun _ _ _ _ _ _ us hl => match us, hl with | [_, _], _ => rfl
  have F_fewest := fun_mk (st := sFewest) l_fewest c_fewest k_fewest
  have b_fewest := F_fewest.binds (ps := ["self", "order"]) fun _ _ _ _ _ _ us hl => match us, hl with | [_, _], _ => rfl
  have F_never := fun_mk (st := sNever) l_never c_never k_never
  have b_never := F_never.binds (ps := ["self", "most"]) fun _ _ _ _ _ _ us hl => match us, hl with | [_, _], _ => rfl
  have F_plain := fun_mk (st := sPlain) l_plain c_plain k_plain
  have b_plain := F_plain.binds (ps := ["self", "order"]) fun _ _ _ _ _ _ us hl => match us, hl with | [_, _], _ => rfl
  have F_fill := fun_mk (st := sFill) l_fill c_fill k_fill
  have b_fill := F_fill.binds (ps := ["self", "order"]) fun _ _ _ _ _ _ us hl => match us, hl with | [_, _], _ => rfl
  have F_some := fun_mk (st := sSome) l_some c_some k_some
  have b_some := F_some.binds (ps := ["self"]) fun _ _ _ _ _ _ us hl => match us, hl with | [_], _ => rfl
  have F_can := fun_mk (st := sCan) l_can c_can k_can
  have b_can := F_can.binds (ps := ["self", "plan"]) fun _ _ _ _ _ _ us hl => match us, hl with | [_, _], _ => rfl
  have F_held := fun_mk (st := sHeld) l_held c_held k_held
  have b_held := F_held.binds (ps := ["self", "plan"]) fun _ _ _ _ _ _ us hl => match us, hl with | [_, _], _ => rfl
  have F_large : FunC K "numbers_largest_first" "Cellar.numbers_largest_first" sLargest f_large (PySem.W.fnOf "numbers_largest_first" "Cellar.numbers_largest_first" (defArgs sLargest) (defBody sLargest) (defScope sLargest) .none kV_large dc_large pm_large an_large (.ref cc) ct_large) cc := ⟨_, _, _, _, _, _, _, _, rfl, l_large, c_large⟩
  have b_large : L2.Binds K (PySem.W.fnOf "numbers_largest_first" "Cellar.numbers_largest_first" (defArgs sLargest) (defBody sLargest) (defScope sLargest) .none kV_large dc_large pm_large an_large (.ref cc) ct_large) ["self"] [] := .all fun us hl => match us, hl with | [_], _ => rfl
  have m_init : Meth K C "__init__" f_init := ⟨a_init, i_init, k_init⟩
  have m_begins : Meth K C "begins" f_begins := ⟨a_begins, i_begins, k_begins⟩
  have m_kind : Meth K C "kind" f_kind := ⟨a_kind, i_kind, k_kind⟩
  have m_check : Meth K C "check" f_check := ⟨a_check, i_check, k_check⟩
  have m_full : Meth K C "full" f_full := ⟨a_full, i_full, k_full⟩
  have m_fewest : Meth K C "fewest" f_fewest := ⟨a_fewest, i_fewest, k_fewest⟩
  have m_never : Meth K C "never" f_never := ⟨a_never, i_never, k_never⟩
  have m_plain : Meth K C "plain" f_plain := ⟨a_plain, i_plain, k_plain⟩
  have m_fill : Meth K C "filling_rows" f_fill := ⟨a_fill, i_fill, k_fill⟩
  have m_some : Meth K C "held_by_some_plan" f_some := ⟨a_some, i_some, k_some⟩
  have m_large : Meth K C "numbers_largest_first" f_large := ⟨a_large, i_large, k_large⟩
  have m_can : Meth K C "can_take" f_can := ⟨a_can, i_can, k_can⟩
  have m_held : Meth K C "held_by" f_held := ⟨a_held, i_held, k_held⟩
  have g_order := PySem.W.mg_of X G a_order
  have g_plans := PySem.W.mg_of X G a_plans
  have g_best := PySem.W.mg_of X G a_best
  have g_to := PySem.W.mg_of X G a_to
  refine ⟨(PySem.W.fnOf "answers" "answers" (defArgs sAns) (defBody sAns) (defScope sAns) .none kV_ans dc_ans pm_ans an_ans cd_ans ct_ans), fun s us hu => match us, hu with | [_], _ => .of_eq rfl, fun tb base _ _ TB => ?_⟩
  have M : Meths P w K mg base C (lamT tb) := by
    refine ⟨⟨f_begins, _, ok_begins F_begins T, b_begins, m_begins⟩, ⟨f_kind, _, ok_kind F_kind T, b_kind, m_kind⟩, ⟨f_check, _, ok_check F_check T F_order b_order g_order F_can b_can m_can F_held b_held m_held, b_check, m_check⟩,
      ⟨f_full, _, ok_full F_full T F_order b_order g_order F_best b_best g_best F_fill b_fill m_fill F_plans b_plans g_plans F_held b_held m_held, b_full, m_full⟩,
      ⟨f_fewest, _, ok_fewest F_fewest T F_order b_order g_order F_best b_best g_best F_fill b_fill m_fill F_plans b_plans g_plans F_held b_held m_held, b_fewest, m_fewest⟩,
      ⟨f_never, _, ok_never F_never T F_order b_order g_order F_some b_some m_some F_plans b_plans g_plans F_held b_held m_held, b_never, m_never⟩,
      ⟨f_plain, _, ok_plain F_plain T F_order b_order g_order F_large b_large m_large TB, b_plain, m_plain⟩⟩
  exact ok_ans F_ans T ⟨mk, a_init, i_init, kc⟩ F_init b_init F_to b_to g_to M
end CD

/-! ## Ec -/
set_option Elab.async false
set_option linter.all false
set_option maxRecDepth 100000
set_option maxHeartbeats 8000000
namespace CD
open PySem PySem.Spec PyProof.Rows L2 LamX
open PySem.W (Codec)
/-- the same program, asked at the empty list alone: its head's heap is the row's too -/
def emptyRow : PySem.W.OpenSpec := PySem.W.OpenSpec.mk PySem.Challenge.pw_caskorders_s01_answers PySem.Challenge.nm_caskorders_s01_answers PySem.Challenge.fa_caskorders_s01_answers PySem.Challenge.fr_caskorders_s01_answers (fun l : List Int => l.isEmpty) (fun _ : List Int => ([] : List Int))
def spEmpty (K : PySem.W.Frag) : Sp := fun vs H Q _ => ∃ a : Addr, vs = [.ref a] ∧ SqL K H a [] ∧ ∀ (H' : Hp) (p : Addr), H' p = some (.lst []) → Q (.ref p) H'
structure Txt0 (K : PySem.W.Frag) (mg : Str → Option Value) (C : Addr) : Prop where
  cl : Cls K C
  nZ : NoAttr K C "sizes"
  nS : NoAttr K C "stock"
  gC : mg "Cellar" = some (.ref C)
  len : mg "len" = none
section
variable {P : Program} {w : World} {K : PySem.W.Frag} {mg : Str → Option Value} {base : Heap} {C : Addr}
theorem ok_init0 {f : Addr} {fd : FuncData} (F : Fun K "__init__" "Cellar.__init__" sInit f fd) (T : Txt0 K mg C) : FnOk P w K mg base CX0 1 f fd ["self"] (spInit C) := by
  refine F.ok scInit (fun vs H Q E h => ?_) (fun cdv A outer s H vs Q E hr h => ?_)
  · obtain ⟨x, dx, rfl, _⟩ := h
    rfl
  · obtain ⟨x, dx, rfl, hx, q⟩ := h
    refine ⟨_, pss_cons (ps_fld (pv 0) (pe_lst pa_nil) rfl) (pss_one (ps_fld (pv 0) (pe_lst pa_nil) rfl)), ?_⟩
    refine ⟨line0, fun a1 n1 => ⟨_, rfl, x, C, dx, _, rfl, (upd_ne (ne_of_none hx n1)).trans hx, T.cl, T.nZ, (by show 0 < 1000; decide), ?_⟩⟩
    refine ⟨line0, fun a2 n2 => ⟨_, rfl, x, C, dx, putF "sizes" (.ref a1) [], rfl, ?_, T.cl, T.nS, (by show 1 < 1000; decide), ?_⟩⟩
    · refine (upd_ne ?_).trans upd_same
      intro z
      rw [← z, upd_same] at n2
      cases n2
    · have x1 : x ≠ a1 := ne_of_none hx n1
      have x2 : x ≠ a2 := fun z => by
        rw [← z, upd_same] at n2
        cases n2
      have m2 : upd H a1 (.lst []) a2 = none := by
        rw [upd_ne x2.symm] at n2
        exact n2
      have a12 : a1 ≠ a2 := fun z => by
        rw [← z, upd_same] at m2
        cases m2
      have h2 : H a2 = none := by
        rw [upd_ne a12.symm] at m2
        exact m2
      refine q _ a1 a2 ⟨upd_same.trans (congrArg (fun z => some (HO.ins C dx z)) (cF_new a1 a2)), ?_, ?_, a12⟩ n1 h2 fun b o e hb => ?_
      · exact (upd_ne x1.symm).trans ((upd_ne a12).trans ((upd_ne x1.symm).trans upd_same))
      · exact (upd_ne x2.symm).trans upd_same
      · exact (upd_ne hb).trans ((upd_ne (ne_of_none e h2)).trans ((upd_ne hb).trans ((upd_ne (ne_of_none e n1)).trans e)))
theorem ok_empty {f fI : Addr} {fd fdI : FuncData} (F : Fun K "answers" "answers" sAns f fd) (T : Txt0 K mg C) (MK : Mk K C fI) (FI : Fun K "__init__" "Cellar.__init__" sInit fI fdI) (bI : L2.Binds K fdI ["self"] []) : FnOk P w K mg base CX0 3 f fd ["calls"] (spEmpty K) := by
  have GI : FnOk P w K mg base CX0 1 fI fdI ["self"] (spInit C) := ok_init0 FI T
  refine F.ok scAns (fun vs H Q E h => ?_) (fun cdv A outer s H vs Q E hr h => ?_)
  · obtain ⟨a, rfl, _⟩ := h
    rfl
  · obtain ⟨a, rfl, hS, q⟩ := h
    refine ⟨_, pss_cons (ps_set (i := 1) scAns.nd rfl (.inl rfl) (pe_make0 MK GI hr rfl T.gC bI .nil pass0))
      (pss_cons (ps_set (i := 2) scAns.nd rfl (.inl rfl) (pe_lst pa_nil))
      (pss_cons (ps_set (i := 3) scAns.nd rfl (.inl rfl) pe_int)
      (pss_cons (ps_while PassesOwn.never (pt_cmpR op_lt (pv 3) (pe_callB call_len_seq (by rfl) T.len PySem.boot_len (pa_cons (pv 0) pa_nil)) (nomark _)) pss_never)
      (pss_one (ps_ret (pv 2)))))), ?_⟩
    intro x dx nx nd ne
    refine ⟨x, dx, rfl, upd_same, fun H1 a1 a2 hC1 m1 m2 kp => ⟨rfl, ?_⟩⟩
    have s1 : Same H H1 := Same.made nx nd kp
    refine ⟨line0, fun t nt => ?_⟩
    refine ⟨fun m σ H' => σ = [some (.ref a), some (.ref x), some (.ref t), some (.int 0), none, none, none] ∧ SqL K H' a [] ∧ H' t = some (.lst []), ⟨0, rfl, (s1.trans (same_new nt)).seq hS, upd_same⟩, ?_⟩
    rintro m σ H' ⟨rfl, h1, h2⟩
    refine ⟨_, rfl, .ref a, rfl, a, _, rfl, .inl h1, _, _, rfl, rfl, _, rfl, ite2 (fun hlt => ?_) fun hge => ?_⟩
    · exact absurd (of_decide_eq_true hlt) (by decide)
    · exact ⟨.ref t, rfl, q H' t h2⟩
end
theorem empty_mk {P : Program} {w : World} {K : PySem.W.Frag} {h : Heap} {mg : Str → Option Value} {fa C f1 f2 : Addr} (X : K.In h) (G : h.Ns mainGlobals mg) (hfa : mg "answers" = some (.ref fa))
    {od1 an1 od2 an2 : Option Addr} {sl1 sl2 : Array (Option Value)} {oc1 kV1 dc1 pm1 cd1 ct1 oc2 kV2 dc2 pm2 cd2 ct2 : Value}
    (aC : PySem.W.nsIn K mainGlobals "Cellar" = some (some (.ref C)))
    (a1 : PySem.W.findIn K (.ref C) "__init__" = some (some (.ref f1))) (i1 : PySem.W.isFn K (.ref f1) = true) (l1 : K.lookup f1 = some ⟨oc1, od1, .func (PySem.W.fnOf "__init__" "Cellar.__init__" (defArgs sInit) (defBody sInit) (defScope sInit) .none kV1 dc1 pm1 an1 cd1 ct1), sl1⟩) (c1 : PySem.W.codeIn K cd1 "Cellar.__init__" = true) (k1 : PySem.W.keepIn K (.ref f1) = true)
    (a2 : PySem.W.nsIn K mainGlobals "answers" = some (some (.ref f2))) (l2 : K.lookup f2 = some ⟨oc2, od2, .func (PySem.W.fnOf "answers" "answers" (defArgs sAns) (defBody sAns) (defScope sAns) .none kV2 dc2 pm2 an2 cd2 ct2), sl2⟩) (c2 : PySem.W.codeIn K cd2 "answers" = true) (k2 : PySem.W.keepIn K (.ref f2) = true)
    (pg : PySem.W.plainGet K C Str.empty = true) (hd : PySem.W.hasDictIn K C = true) (po : PySem.W.plainOver K C = true) (sa : PySem.W.findIn K (.ref C) "__setattr__" = some (some (.builtin "object.__setattr__"))) (mk : PySem.W.makesIn K C = true) (kc : PySem.W.keepIn K (.ref C) = true)
    (nZ : PySem.W.findIn K (.ref C) "sizes" = some none) (nS : PySem.W.findIn K (.ref C) "stock" = some none) (zl : PySem.W.nsIn K mainGlobals "len" = some none) :
    ∃ fd : FuncData, (∀ (s : Shared) (us : List Value), us.length = (["calls"] : List Str).length → BindsTo s fd ⟨us, []⟩ ((["calls"] : List Str).zip us)) ∧ ∀ base : Heap, K.In base → base.Ns mainGlobals mg → FnOk P w K mg base CX0 3 fa fd ["calls"] (spEmpty K) := by
  have e := hfa.symm.trans (PySem.W.mg_of X G a2)
  cases e
  have T : Txt0 K mg C := ⟨⟨pg, hd, po, sa⟩, nZ, nS, PySem.W.mg_of X G aC, PySem.W.mg_none_of X G zl⟩
  have F1 := fun_mk (st := sInit) l1 c1 k1
  have F2 := fun_mk (st := sAns) l2 c2 k2
  have b1 := F1.binds (ps := ["self"]) fun _ _ _ _ _ _ us hl => match us, hl with | [_], _ => rfl
  exact ⟨_, fun s us hu => match us, hu with | [_], _ => .of_eq rfl, fun base _ _ => ok_empty F2 T ⟨mk, a1, i1, kc⟩ F1 b1⟩
end CD

/-! ## Ed -/
set_option Elab.async false
set_option maxRecDepth 100000
set_option maxHeartbeats 8000000
open PySem PySem.W PyProof.Rows
theorem CD.empty_holds : CD.emptyRow.Holds := by
  w_on; k_headS; (case hw => exact ⟨[.list []], by decide +kernel, by decide +kernel⟩)
  k_fillS
  refine L2.walk_specK (r := CD.emptyRow) (k := 3) (CX := L2.CX0) (ps := ["calls"]) (sp := CD.spEmpty) (by decide +kernel) rfl rfl ⟨rfl, by decide, by decide⟩ (fun w h Y => PySem.W.kIn_of Y) ?F ?S (fun _ _ _ _ z => z)
  case F =>
    intro w mg fa h Y KX G hmg
    refine' CD.empty_mk KX G hmg ?aC ?a1 ?i1 ?l1 ?c1 ?k1 ?a2 ?l2 ?c2 ?k2 ?pg ?hd ?po ?sa ?mk ?kc ?nZ ?nS ?zl
    (case aC => k_is)
    (case a1 => k_is); (case i1 => k_is); (case l1 => k_is); (case c1 => k_is); (case k1 => k_is)
    (case a2 => k_is); (case l2 => k_is); (case c2 => k_is); (case k2 => k_is)
    (case pg => k_is); (case hd => k_is); (case po => k_is); (case sa => k_is); (case mk => k_is); (case kc => k_is); (case nZ => k_is); (case nS => k_is); (case zl => k_is)
  case S =>
    intro K H xs a hO hwi hask hx
    have hn : a.1 = [] := by
      have z : (a.1 : List Int).isEmpty = true := hask
      exact List.isEmpty_iff.mp z
    cases hx with
    | cons h1 h2 =>
      cases h2
      cases h1 with
      | lst hs ha =>
        have e := L2.ints_dw a.1 _ ha
        subst e
        rw [hn] at hs
        exact ⟨_, rfl, hs, fun H' p hp => .lst (L2.SqL.of hp) (L2.dw_ints [])⟩

/-! ## Ee -/
set_option Elab.async false
set_option maxRecDepth 100000
set_option maxHeartbeats 8000000
open PySem PySem.W PyProof.Rows
theorem PySem.Challenge.cw_caskorders_s01_answers_holds : PySem.Challenge.rw_caskorders_s01_answers.Holds := by
  w_on
  o_headS (PySem.W.kmHook CD.empty_holds.heap_1 [2, 3, 15, 17, 18, 20, 21, 22, 24, 25, 27, 28, 29, 32, 33, 41, 43, 44, 46, 47, 48, 50, 51, 53, 54, 55, 57, 58, 60, 61, 62, 64, 65, 67, 68, 69, 71, 72, 74, 75, 76, 79, 80, 81, 84, 85, 86, 88, 89, 91, 92, 93, 95, 96, 98, 99, 100, 102, 103, 105, 106, 107, 109, 110, 112, 113, 114, 117, 118, 119, 122, 123, 124, 125, 126, 127, 128, 131, 133, 134, 136, 137, 138, 140, 141, 143, 144] (fun _ => by kernel_rfl) [108])
  (case hw => exact ⟨[.list [.int 0, .int 0, .int 0]], by decide +kernel, by decide +kernel⟩)
  k_fillS
  refine CT.row_walk (r := PySem.Challenge.rw_caskorders_s01_answers) (k := 7) (K := CD.empty_holds.heap_1) (ps := ["calls"]) (by decide +kernel) rfl ⟨rfl, by decide, by decide⟩ (fun w h Y => PySem.W.km_in_of Y) ?_
  intro w mg fa h Y KX G hmg
  have hT := PySem.W.km_tabs_of Y
  have A : ∃ fd : FuncData, (∀ (s : Shared) (us : List Value), us.length = (["calls"] : List Str).length → BindsTo s fd ⟨us, []⟩ ((["calls"] : List Str).zip us)) ∧
      ∀ (tb : Addr) (base : Heap), (CD.empty_holds.heap_1 w.params).In base → base.Ns mainGlobals mg → LamX.TabB base mg 112 tb → L2.FnOk PySem.Challenge.rw_caskorders_s01_answers.prog w (CD.empty_holds.heap_1 w.params) mg base L2.CX0 7 fa fd ["calls"] (CD.spAns (CD.empty_holds.heap_1 w.params) (CD.lamT tb)) := by
    refine' CD.all_mk (cc := 112) KX G hmg ?aC ?a_order ?l_order ?c_order ?k_order ?a_plans ?l_plans ?c_plans ?k_plans ?a_best ?l_best ?c_best ?k_best ?a_to ?l_to ?c_to ?k_to ?a_ans ?l_ans ?c_ans ?k_ans ?a_init ?i_init ?l_init ?c_init ?k_init ?a_begins ?i_begins ?l_begins ?c_begins ?k_begins ?a_kind ?i_kind ?l_kind ?c_kind ?k_kind ?a_check ?i_check ?l_check ?c_check ?k_check ?a_full ?i_full ?l_full ?c_full ?k_full ?a_fewest ?i_fewest ?l_fewest ?c_fewest ?k_fewest ?a_never ?i_never ?l_never ?c_never ?k_never ?a_plain ?i_plain ?l_plain ?c_plain ?k_plain ?a_fill ?i_fill ?l_fill ?c_fill ?k_fill ?a_some ?i_some ?l_some ?c_some ?k_some ?a_large ?i_large ?l_large ?c_large ?k_large ?a_can ?i_can ?l_can ?c_can ?k_can ?a_held ?i_held ?l_held ?c_held ?k_held ?cO ?cZ ?cM ?cK ?c0 ?c1 ?c2 ?c3 ?c4 ?c5 ?c6 ?z_range ?z_len ?z_min ?z_max ?z_sum ?z_all ?z_zip ?z_sorted ?pg ?hdi ?po ?sa ?mk ?kc ?nZ ?nS
    (case aC => k_is)
    (case a_order => k_is)
    (case l_order => k_is)
    (case c_order => k_is)
    (case k_order => k_is)
    (case a_plans => k_is)
    (case l_plans => k_is)
    (case c_plans => k_is)
    (case k_plans => k_is)
    (case a_best => k_is)
    (case l_best => k_is)
    (case c_best => k_is)
    (case k_best => k_is)
    (case a_to => k_is)
    (case l_to => k_is)
    (case c_to => k_is)
    (case k_to => k_is)
    (case a_ans => k_is)
    (case l_ans => k_is)
    (case c_ans => k_is)
    (case k_ans => k_is)
    (case a_init => k_is)
    (case i_init => k_is)
    (case l_init => k_is)
    (case c_init => k_is)
    (case k_init => k_is)
    (case a_begins => k_is)
    (case i_begins => k_is)
    (case l_begins => k_is)
    (case c_begins => k_is)
    (case k_begins => k_is)
    (case a_kind => k_is)
    (case i_kind => k_is)
    (case l_kind => k_is)
    (case c_kind => k_is)
    (case k_kind => k_is)
    (case a_check => k_is)
    (case i_check => k_is)
    (case l_check => k_is)
    (case c_check => k_is)
    (case k_check => k_is)
    (case a_full => k_is)
    (case i_full => k_is)
    (case l_full => k_is)
    (case c_full => k_is)
    (case k_full => k_is)
    (case a_fewest => k_is)
    (case i_fewest => k_is)
    (case l_fewest => k_is)
    (case c_fewest => k_is)
    (case k_fewest => k_is)
    (case a_never => k_is)
    (case i_never => k_is)
    (case l_never => k_is)
    (case c_never => k_is)
    (case k_never => k_is)
    (case a_plain => k_is)
    (case i_plain => k_is)
    (case l_plain => k_is)
    (case c_plain => k_is)
    (case k_plain => k_is)
    (case a_fill => k_is)
    (case i_fill => k_is)
    (case l_fill => k_is)
    (case c_fill => k_is)
    (case k_fill => k_is)
    (case a_some => k_is)
    (case i_some => k_is)
    (case l_some => k_is)
    (case c_some => k_is)
    (case k_some => k_is)
    (case a_large => k_is)
    (case i_large => k_is)
    (case l_large => k_is)
    (case c_large => k_is)
    (case k_large => k_is)
    (case a_can => k_is)
    (case i_can => k_is)
    (case l_can => k_is)
    (case c_can => k_is)
    (case k_can => k_is)
    (case a_held => k_is)
    (case i_held => k_is)
    (case l_held => k_is)
    (case c_held => k_is)
    (case k_held => k_is)
    (case cO => k_is)
    (case cZ => k_is)
    (case cM => k_is)
    (case cK => k_is)
    (case c0 => k_is)
    (case c1 => k_is)
    (case c2 => k_is)
    (case c3 => k_is)
    (case c4 => k_is)
    (case c5 => k_is)
    (case c6 => k_is)
    (case z_range => k_is)
    (case z_len => k_is)
    (case z_min => k_is)
    (case z_max => k_is)
    (case z_sum => k_is)
    (case z_all => k_is)
    (case z_zip => k_is)
    (case z_sorted => k_is)
    (case pg => k_is)
    (case hdi => k_is)
    (case po => k_is)
    (case sa => k_is)
    (case mk => k_is)
    (case kc => k_is)
    (case nZ => k_is)
    (case nS => k_is)
  obtain ⟨fd, hb, hF⟩ := A
  refine ⟨fd, 112, 108, CD.spAns (CD.empty_holds.heap_1 w.params) (CD.lamT 108), hb, hT 108 (by simp), by rfl, PySem.W.codeHd_of_K KX (by rfl), ?_, fun base kb nb TB => hF 108 base kb nb TB⟩
  intro H0 H xs a hwi hask hs ht hx
  cases hx with
  | cons h1 h2 =>
    cases h2
    cases h1 with
    | lst hq ha =>
      have e := L2.ints_dw a.1 _ ha
      subst e
      refine ⟨_, a.1, rfl, L2.Same.seq hs hq, hask, fun p hp => ?_, fun H' p hp => .lst (L2.SqL.of hp) (L2.dw_ints _)⟩
      rw [List.mem_singleton.mp hp]
      exact LamX.TabS.nil ht
#print axioms PySem.Challenge.cw_caskorders_s01_answers_holds
