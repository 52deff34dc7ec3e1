import PyProof.Rows.All
import Wide.All
import OpenK.AllK
import Wide.FinOn
import Open.SpecLaws
import KE.OsHead
import KE.OsGo
import HandS.Base
import HandS.Call
import HandS.List
import HandS.Comp
import HandS.Iter
import HandS.Ends
import HandS.Spec
import HandS.Words
import HandS.WordsList
import HandS.Walk
import HandS.Slots
import HandS.SortKw
import KE.KMinBuiltin
import PySem.Challenge.RW_leastsums_s05_smallest_with
set_option Elab.async false
set_option maxRecDepth 100000
set_option maxHeartbeats 2000000
namespace LM
open Ks605

/-- the linear form, by recursion -/
def form : List Int → List Nat → Int
  | c :: a, v :: x => c * (v : Int) + form a x
  | _, _ => 0
theorem foldl_add (l : List Int) : ∀ s : Int, l.foldl (· + ·) s = s + l.foldl (· + ·) 0 := by
  induction l with
  | nil => intro s; simp
  | cons c l ih => intro s; rw [List.foldl_cons, List.foldl_cons, ih, ih (0 + c)]; omega
theorem evaluate_eq : ∀ (a : List Int) (x : List Nat), evaluate a x = form a x
  | [], _ => rfl
  | _ :: _, [] => rfl
  | c :: a, v :: x => by
    show (((c, v) :: a.zip x).map fun p => p.1 * (p.2 : Int)).foldl (· + ·) 0 = c * (v : Int) + form a x
    rw [List.map_cons, List.foldl_cons, foldl_add, ← evaluate_eq a x]
    show 0 + c * (v : Int) + evaluate a x = _
    omega
/-- contained, by recursion; of one length -/
def le : List Nat → List Nat → Prop
  | [], [] => True
  | u :: y, v :: x => u ≤ v ∧ le y x
  | _, _ => False
theorem le_len : ∀ {y x : List Nat}, le y x → y.length = x.length
  | [], [], _ => rfl
  | _ :: _, _ :: _, h => by rw [List.length_cons, List.length_cons, le_len h.2]
  | [], _ :: _, h => h.elim
  | _ :: _, [], h => h.elim
theorem le_refl : ∀ x : List Nat, le x x
  | [] => trivial
  | _ :: x => ⟨Nat.le_refl _, le_refl x⟩
theorem le_trans : ∀ {z y x : List Nat}, le z y → le y x → le z x
  | [], [], [], _, _ => trivial
  | _ :: _, _ :: _, _ :: _, h, g => ⟨Nat.le_trans h.1 g.1, le_trans h.2 g.2⟩
  | [], [], _ :: _, _, g => g.elim
  | [], _ :: _, _, h, _ => h.elim
  | _ :: _, [], _, h, _ => h.elim
  | _ :: _, _ :: _, [], _, g => g.elim
theorem le_sum : ∀ {y x : List Nat}, le y x → y.sum ≤ x.sum
  | [], [], _ => Nat.le_refl _
  | _ :: _, _ :: _, h => by rw [List.sum_cons, List.sum_cons]; exact Nat.add_le_add h.1 (le_sum h.2)
  | [], _ :: _, h => h.elim
  | _ :: _, [], h => h.elim
theorem le_sum_eq : ∀ {y x : List Nat}, le y x → x.sum ≤ y.sum → y = x
  | [], [], _, _ => rfl
  | u :: y, v :: x, h, g => by
    rw [List.sum_cons, List.sum_cons] at g
    have h2 := le_sum h.2
    have h1 := h.1
    have e : u = v := by omega
    rw [e, le_sum_eq h.2 (by omega)]
  | [], _ :: _, h, _ => h.elim
  | _ :: _, [], h, _ => h.elim
theorem contained_iff : ∀ {y x : List Nat}, y.length = x.length → (isContained y x = true ↔ le y x)
  | [], [], _ => ⟨fun _ => trivial, fun _ => rfl⟩
  | u :: y, v :: x, h => by
    have ih := contained_iff (y := y) (x := x) (by simpa using h)
    show ((((u, v) :: y.zip x).all fun p => decide (p.1 ≤ p.2)) = true ↔ (u ≤ v ∧ le y x))
    rw [List.all_cons, Bool.and_eq_true, decide_eq_true_iff]
    exact and_congr Iff.rfl ih
  | [], _ :: _, h => by simp at h
  | _ :: _, [], h => by simp at h
/-- all vectors up to a list of highest values, in lexicographic order -/
def box : List Nat → List (List Nat)
  | [] => [[]]
  | h :: hs => (List.range (h + 1)).flatMap fun k => (box hs).map fun r => k :: r
theorem mem_box : ∀ {hs x : List Nat}, x ∈ box hs ↔ le x hs
  | [], [] => ⟨fun _ => trivial, fun _ => List.mem_singleton.mpr rfl⟩
  | [], u :: x => ⟨fun h => by simp [box] at h, fun h => h.elim⟩
  | h :: hs, [] => ⟨fun g => by simp [box] at g, fun g => g.elim⟩
  | h :: hs, u :: x => by
    have ih := mem_box (hs := hs) (x := x)
    show u :: x ∈ (List.range (h + 1)).flatMap (fun k => (box hs).map fun r => k :: r) ↔ (u ≤ h ∧ le x hs)
    rw [List.mem_flatMap]
    constructor
    · rintro ⟨k, hk, g⟩
      rw [List.mem_map] at g
      obtain ⟨r, hr, e⟩ := g
      injection e with e1 e2
      subst e1 e2
      exact ⟨by have := List.mem_range.mp hk; omega, ih.mp hr⟩
    · rintro ⟨hu, hx⟩
      exact ⟨u, List.mem_range.mpr (by omega), List.mem_map.mpr ⟨x, ih.mpr hx, rfl⟩⟩
/-- a vector of the box is not contained in one ahead of it -/
theorem box_pairwise : ∀ hs : List Nat, (box hs).Pairwise fun u v => ¬ le v u
  | [] => List.pairwise_singleton _ _
  | h :: hs => by
    have ih := box_pairwise hs
    show ((List.range (h + 1)).flatMap fun k => (box hs).map fun r => k :: r).Pairwise _
    rw [List.pairwise_flatMap]
    refine ⟨fun k _ => ?_, ?_⟩
    · rw [List.pairwise_map]
      exact ih.imp fun g q => g q.2
    · refine List.pairwise_lt_range.imp ?_
      intro k l hkl x hx y hy
      rw [List.mem_map] at hx hy
      obtain ⟨r, _, rfl⟩ := hx
      obtain ⟨t, _, rfl⟩ := hy
      exact fun q => absurd q.1 (by omega)
theorem bounded_box : ∀ n : Nat, boundedVectors n = box (List.replicate n 6)
  | 0 => rfl
  | n + 1 => by
    show ((List.range 7).flatMap fun first => (boundedVectors n).map fun rest => first :: rest) = _
    rw [bounded_box n]
    rfl
theorem flatMap_filter {α β : Type} (p : β → Bool) (f : α → List β) (l : List α) : (l.flatMap f).filter p = l.flatMap fun x => (f x).filter p := by
  induction l with
  | nil => rfl
  | cons x l ih => rw [List.flatMap_cons, List.filter_append, ih, List.flatMap_cons]
theorem range_cut (g : Nat → List (List Nat)) (h : Nat) (k : Nat) (hh : h ≤ k) : ((List.range (k + 1)).flatMap fun f => if f ≤ h then g f else []) = (List.range (h + 1)).flatMap g := by
  induction k with
  | zero => have e : h = 0 := by omega
            subst e
            simp
  | succ k ih =>
    rcases Nat.lt_or_ge k h with q | q
    · have e : h = k + 1 := by omega
      subst e
      have w : ∀ l : List Nat, (∀ f ∈ l, f ≤ k + 1) → (l.flatMap fun f => if f ≤ k + 1 then g f else []) = l.flatMap g := by
        intro l
        induction l with
        | nil => intro _; rfl
        | cons a l ih => intro hl; rw [List.flatMap_cons, List.flatMap_cons, if_pos (hl a (List.mem_cons_self ..)), ih fun f hf => hl f (List.mem_cons_of_mem _ hf)]
      exact w _ fun f hf => by have := List.mem_range.mp hf; omega
    · rw [List.range_succ, List.flatMap_append, ih q]
      simp
      omega
/-- the smaller box is a part of the greater one -/
theorem box_filter : ∀ {hs ks : List Nat}, le hs ks → box hs = (box ks).filter fun x => isContained x hs
  | [], [], _ => rfl
  | h :: hs, k :: ks, g => by
    have ih := box_filter g.2
    show _ = ((List.range (k + 1)).flatMap fun f => (box ks).map fun r => f :: r).filter _
    rw [flatMap_filter]
    refine Eq.trans (b := (List.range (k + 1)).flatMap fun f => if f ≤ h then (box hs).map fun r => f :: r else []) ?_ (congrArg (fun q => (List.range (k + 1)).flatMap q) (funext fun f => ?_))
    · exact (range_cut (fun f => (box hs).map fun r => f :: r) h k g.1).symm
    · rw [List.filter_map]
      by_cases q : f ≤ h
      · rw [if_pos q, ih]
        congr 1
        refine List.filter_congr fun x hx => ?_
        show _ = (((f, h) :: x.zip hs).all fun p => decide (p.1 ≤ p.2))
        rw [List.all_cons, decide_eq_true q]
        rfl
      · rw [if_neg q]
        have e : (List.filter ((fun x => isContained x (h :: hs)) ∘ fun r => f :: r) (box ks)) = [] := by
          rw [List.filter_eq_nil_iff]
          intro x _ t
          have t' : (((f, h) :: x.zip hs).all fun p => decide (p.1 ≤ p.2)) = true := t
          rw [List.all_cons, Bool.and_eq_true, decide_eq_true_iff] at t'
          exact q t'.1
        rw [e]
        rfl
  | [], _ :: _, h => h.elim
  | _ :: _, [], h => h.elim
/-- one limit more: each vector, then each value behind it -/
def grow (vs : List (List Nat)) (h : Nat) : List (List Nat) := vs.flatMap fun v => (List.range (h + 1)).map fun k => v ++ [k]
theorem grow_box : ∀ (hs : List Nat) (vs : List (List Nat)), hs.foldl grow vs = vs.flatMap fun v => (box hs).map fun r => v ++ r
  | [], vs => by
    show vs = vs.flatMap fun v => [v ++ []]
    induction vs with
    | nil => rfl
    | cons v vs ih => rw [List.flatMap_cons, ← ih, List.append_nil]; rfl
  | h :: hs, vs => by
    rw [List.foldl_cons, grow_box hs]
    unfold grow
    rw [List.flatMap_assoc]
    congr 1
    funext v
    show _ = ((List.range (h + 1)).flatMap fun k => (box hs).map fun r => k :: r).map _
    rw [List.flatMap_map, List.map_flatMap]
    congr 1
    funext k
    rw [List.map_map]
    congr 1
    funext r
    show v ++ [k] ++ r = v ++ (k :: r)
    rw [List.append_assoc]
    rfl
theorem grow_nil (hs : List Nat) : hs.foldl grow [[]] = box hs := by
  rw [grow_box]
  simp
end LM
namespace LM
open Ks605

theorem pigeon : ∀ (p : Nat) (g : Nat → Nat), (∀ k, k ≤ p → g k < p) → ∃ k l, k < l ∧ l ≤ p ∧ g k = g l
  | 0, g, h => absurd (h 0 (Nat.le_refl _)) (by omega)
  | p + 1, g, h => by
    by_cases q : ∃ k, k ≤ p ∧ g k = g (p + 1)
    · obtain ⟨k, hk, e⟩ := q
      exact ⟨k, p + 1, by omega, Nat.le_refl _, e⟩
    · have n : ∀ k, k ≤ p → g k ≠ g (p + 1) := fun k hk e => q ⟨k, hk, e⟩
      have ht := h (p + 1) (Nat.le_refl _)
      obtain ⟨k, l, hkl, hl, e⟩ := pigeon p (fun k => if g (p + 1) < g k then g k - 1 else g k) (fun k hk => by
        have a := h k (by omega)
        have b := n k hk
        show (if g (p + 1) < g k then g k - 1 else g k) < p
        split <;> omega)
      refine ⟨k, l, hkl, by omega, ?_⟩
      have bk := n k (by omega)
      have bl := n l hl
      have e' : (if g (p + 1) < g k then g k - 1 else g k) = (if g (p + 1) < g l then g l - 1 else g l) := e
      split at e' <;> split at e' <;> omega
/-- the first k units of a vector -/
def takeV : Nat → List Nat → List Nat
  | _, [] => []
  | k, v :: x => min k v :: takeV (k - v) x
set_option linter.unusedVariables false
theorem takeV_le : ∀ (k : Nat) (x : List Nat), le (takeV k x) x
  | _, [] => trivial
  | k, v :: x => ⟨Nat.min_le_right _ _, takeV_le _ x⟩
theorem takeV_mono : ∀ {k l : Nat} (x : List Nat), k ≤ l → le (takeV k x) (takeV l x)
  | _, _, [], _ => trivial
  | k, l, v :: x, h => ⟨by omega, takeV_mono x (by omega)⟩
theorem takeV_sum : ∀ (k : Nat) (x : List Nat), (takeV k x).sum = min k x.sum
  | k, [] => by simp [takeV]
  | k, v :: x => by
    show (min k v :: takeV (k - v) x).sum = _
    rw [List.sum_cons, List.sum_cons, takeV_sum]
    omega
def sub : List Nat → List Nat → List Nat
  | v :: x, u :: y => (v - u) :: sub x y
  | _, _ => []
theorem sub_le : ∀ {y x : List Nat}, le y x → le (sub x y) x
  | [], [], _ => trivial
  | _ :: _, _ :: _, h => ⟨Nat.sub_le _ _, sub_le h.2⟩
  | [], _ :: _, h => h.elim
  | _ :: _, [], h => h.elim
theorem sub_sum : ∀ {y x : List Nat}, le y x → (sub x y).sum + y.sum = x.sum
  | [], [], _ => rfl
  | u :: y, v :: x, h => by
    show ((v - u) :: sub x y).sum + _ = _
    rw [List.sum_cons, List.sum_cons, List.sum_cons]
    have := sub_sum h.2
    have := h.1
    omega
  | [], _ :: _, h => h.elim
  | _ :: _, [], h => h.elim
theorem sub_form : ∀ {a : List Int} {y x : List Nat}, le y x → form a (sub x y) = form a x - form a y
  | [], _, _, _ => by simp [form]
  | _ :: _, [], [], _ => rfl
  | c :: a, u :: y, v :: x, h => by
    show c * ((v - u : Nat) : Int) + form a (sub x y) = (c * (v : Int) + form a x) - (c * (u : Int) + form a y)
    rw [sub_form h.2, Int.ofNat_sub h.1, Int.mul_sub]
    omega
  | _, [], _ :: _, h => h.elim
  | _, _ :: _, [], h => h.elim
/-- nothing but where the coefficient is below 0 -/
def Neg : List Int → List Nat → Prop
  | c :: a, v :: x => (0 ≤ c → v = 0) ∧ Neg a x
  | _, _ => True
theorem Neg.le : ∀ {a : List Int} {y x : List Nat}, LM.le y x → Neg a x → Neg a y
  | [], _, _, _, _ => by unfold Neg; trivial
  | _ :: _, [], _, _, _ => by unfold Neg; trivial
  | c :: a, u :: y, v :: x, h, g => ⟨fun q => by have := g.1 q; have := h.1; omega, Neg.le h.2 g.2⟩
  | _, _ :: _, [], h, _ => h.elim
def negPart : List Int → List Nat → List Nat
  | c :: a, v :: x => (if c < 0 then v else 0) :: negPart a x
  | _, x => x
theorem negPart_neg : ∀ (a : List Int) (x : List Nat), Neg a (negPart a x)
  | [], _ => by unfold Neg; trivial
  | _ :: _, [] => by unfold negPart Neg; trivial
  | c :: a, v :: x => ⟨fun q => if_neg (by omega), negPart_neg a x⟩
theorem negPart_le : ∀ (a : List Int) (x : List Nat), le (negPart a x) x
  | [], x => by unfold negPart; exact le_refl x
  | _ :: _, [] => trivial
  | c :: a, v :: x => ⟨by show (if c < 0 then v else 0) ≤ v; split <;> omega, negPart_le a x⟩
theorem negPart_form : ∀ (a : List Int) (x : List Nat), form a (negPart a x) ≤ form a x
  | [], _ => by unfold form; omega
  | _ :: _, [] => Int.le_refl 0
  | c :: a, v :: x => by
    show c * ((if c < 0 then v else 0 : Nat) : Int) + form a (negPart a x) ≤ c * (v : Int) + form a x
    have ih := negPart_form a x
    split
    · omega
    · have : 0 ≤ c * (v : Int) := Int.mul_nonneg (by omega) (by omega)
      simp
      omega
theorem negPart_formAt : ∀ {a : List Int} {x : List Nat} {i : Nat} {p : Int} {v : Nat}, a[i]? = some p → x[i]? = some v → 0 ≤ p → form a (negPart a x) + p * (v : Int) ≤ form a x
  | [], _, _, _, _, h, _, _ => by simp at h
  | _ :: _, [], _, _, _, _, h, _ => by simp at h
  | c :: a, u :: x, 0, p, v, h, g, hp => by
    have e1 : c = p := Option.some.inj h
    have e2 : u = v := Option.some.inj g
    subst e1 e2
    show c * ((if c < 0 then u else 0 : Nat) : Int) + form a (negPart a x) + c * (u : Int) ≤ c * (u : Int) + form a x
    have := negPart_form a x
    rw [if_neg (by omega)]
    simp
    omega
  | c :: a, u :: x, i + 1, p, v, h, g, hp => by
    have ih := negPart_formAt (a := a) (x := x) (i := i) (p := p) (v := v) h g hp
    show c * ((if c < 0 then u else 0 : Nat) : Int) + form a (negPart a x) + p * (v : Int) ≤ c * (u : Int) + form a x
    split
    · omega
    · have : 0 ≤ c * (u : Int) := Int.mul_nonneg (by omega) (by omega)
      simp
      omega
theorem negPart_at : ∀ {a : List Int} {x : List Nat} {i : Nat} {p : Int} {v : Nat}, a[i]? = some p → x[i]? = some v → 0 ≤ p → (negPart a x)[i]? = some 0
  | [], _, _, _, _, h, _, _ => by simp at h
  | _ :: _, [], _, _, _, _, h, _ => by simp at h
  | c :: a, u :: x, 0, p, v, h, g, hp => by
    have e1 : c = p := Option.some.inj h
    subst e1
    show some (if c < 0 then u else 0) = some 0
    rw [if_neg (by omega)]
  | c :: a, u :: x, i + 1, p, v, h, g, hp => negPart_at (a := a) (x := x) (i := i) (p := p) (v := v) h g hp
/-- a vector below 0 alone: its form lies between -M times and -1 times its sum -/
theorem Neg.form : ∀ {a : List Int} {y : List Nat} {M : Int}, a.length = y.length → (∀ c ∈ a, -M ≤ c) → Neg a y → LM.form a y ≤ -(y.sum : Int) ∧ -(M * (y.sum : Int)) ≤ LM.form a y
  | [], [], M, _, _, _ => by simp [LM.form]
  | c :: a, v :: y, M, hl, hM, g => by
    have ih := Neg.form (a := a) (y := y) (M := M) (by simpa using hl) (fun c hc => hM c (List.mem_cons_of_mem _ hc)) g.2
    have hc := hM c (List.mem_cons_self ..)
    show c * (v : Int) + LM.form a y ≤ -(((v :: y).sum : Nat) : Int) ∧ -(M * (((v :: y).sum : Nat) : Int)) ≤ c * (v : Int) + LM.form a y
    rw [List.sum_cons, Int.natCast_add, Int.mul_add]
    rcases Int.lt_or_le c 0 with q | q
    · have h1 : c * (v : Int) ≤ -1 * (v : Int) := Int.mul_le_mul_of_nonneg_right (by omega) (by omega)
      have h2 : -M * (v : Int) ≤ c * (v : Int) := Int.mul_le_mul_of_nonneg_right (by omega) (by omega)
      rw [Int.neg_mul] at h2
      omega
    · have e := g.1 q
      subst e
      simp
      omega
  | [], _ :: _, _, h, _, _ => by simp at h
  | _ :: _, [], _, h, _, _ => by simp at h
/-- of a vector of p units at least, below 0 alone, a part has a form that p divides: the pigeonhole -/
theorem part {a : List Int} {x : List Nat} {M : Int} {p : Nat} (hp : 0 < p) (hl : a.length = x.length) (hM : ∀ c ∈ a, -M ≤ c) (g : Neg a x) (hs : p ≤ x.sum) (hM0 : 0 ≤ M) :
    ∃ (y : List Nat) (c : Nat), le y x ∧ 1 ≤ c ∧ (c : Int) ≤ M ∧ form a y = -((p : Int) * (c : Int)) := by
  obtain ⟨k, l, hkl, hlp, e⟩ := pigeon p (fun k => (form a (takeV k x) % (p : Int)).toNat) (fun k _ => by
    have h1 := Int.emod_nonneg (form a (takeV k x)) (b := (p : Int)) (by omega)
    have h2 := Int.emod_lt_of_pos (form a (takeV k x)) (b := (p : Int)) (by omega)
    show (form a (takeV k x) % (p : Int)).toNat < p
    omega)
  have e' : form a (takeV k x) % (p : Int) = form a (takeV l x) % (p : Int) := by
    have h1 := Int.emod_nonneg (form a (takeV k x)) (b := (p : Int)) (by omega)
    have h2 := Int.emod_nonneg (form a (takeV l x)) (b := (p : Int)) (by omega)
    have e2 : (form a (takeV k x) % (p : Int)).toNat = (form a (takeV l x) % (p : Int)).toNat := e
    omega
  have hm := takeV_mono x (Nat.le_of_lt hkl)
  have hy : le (sub (takeV l x) (takeV k x)) x := le_trans (sub_le hm) (takeV_le l x)
  have hf := sub_form (a := a) hm
  have hsum := sub_sum hm
  rw [takeV_sum, takeV_sum] at hsum
  have hb := Neg.form (M := M) (by rw [le_len hy]; exact hl) hM (Neg.le hy g)
  have hd : (p : Int) ∣ form a (takeV l x) - form a (takeV k x) := by
    refine ⟨form a (takeV l x) / (p : Int) - form a (takeV k x) / (p : Int), ?_⟩
    have h1 := Int.mul_ediv_add_emod (form a (takeV l x)) (p : Int)
    have h2 := Int.mul_ediv_add_emod (form a (takeV k x)) (p : Int)
    rw [Int.mul_sub]
    omega
  obtain ⟨z, hz⟩ := hd
  rw [hz] at hf
  have hS : ((sub (takeV l x) (takeV k x)).sum : Int) = (l : Int) - (k : Int) := by omega
  rw [hS, hf] at hb
  have hzneg : z < 0 := by
    rcases Int.lt_or_le z 0 with q | q
    · exact q
    · have := Int.mul_nonneg (a := (p : Int)) (b := z) (by omega) q
      omega
  have hzM : -M ≤ z := by
    rcases Int.lt_or_le z (-M) with q | q
    · have h1 : (p : Int) * z < (p : Int) * (-M) := Int.mul_lt_mul_of_pos_left q (by omega)
      have h2 : M * ((l : Int) - (k : Int)) ≤ M * (p : Int) := Int.mul_le_mul_of_nonneg_left (by omega) hM0
      rw [Int.mul_neg, Int.mul_comm (p : Int) M] at h1
      omega
    · exact q
  refine ⟨sub (takeV l x) (takeV k x), (-z).toNat, hy, by omega, by omega, ?_⟩
  have ez : (((-z).toNat : Nat) : Int) = -z := by omega
  rw [ez, hf, Int.mul_neg, Int.neg_neg]
end LM
namespace LM
open Ks605

theorem le_at : ∀ {y x : List Nat} {i v : Nat}, le y x → x[i]? = some v → ∃ u, y[i]? = some u ∧ u ≤ v
  | [], [], _, _, _, h => by simp at h
  | u :: y, w :: x, 0, v, h, g => by
    have e : w = v := Option.some.inj g
    subst e
    exact ⟨u, rfl, h.1⟩
  | u :: y, w :: x, i + 1, v, h, g => le_at (y := y) (x := x) (i := i) h.2 g
  | [], _ :: _, _, _, h, _ => h.elim
  | _ :: _, [], _, _, h, _ => h.elim
theorem le_of_at : ∀ {y x : List Nat}, y.length = x.length → (∀ (i u v : Nat), y[i]? = some u → x[i]? = some v → u ≤ v) → le y x
  | [], [], _, _ => trivial
  | u :: y, v :: x, hl, h => ⟨h 0 u v rfl rfl, le_of_at (by simpa using hl) fun i u' v' => h (i + 1) u' v'⟩
  | [], _ :: _, h, _ => by simp at h
  | _ :: _, [], h, _ => by simp at h
theorem le_set : ∀ {y x : List Nat} {i v c : Nat}, le y x → x[i]? = some v → c ≤ v → le (y.set i c) x
  | [], [], _, _, _, _, h, _ => by simp at h
  | u :: y, w :: x, 0, v, c, h, g, hc => by
    have e : w = v := Option.some.inj g
    subst e
    exact ⟨hc, h.2⟩
  | u :: y, w :: x, i + 1, v, c, h, g, hc => ⟨h.1, le_set (y := y) (x := x) (i := i) h.2 g hc⟩
  | [], _ :: _, _, _, _, h, _, _ => h.elim
  | _ :: _, [], _, _, _, h, _, _ => h.elim
theorem form_set : ∀ {a : List Int} {y : List Nat} {i u c : Nat} {p : Int}, a[i]? = some p → y[i]? = some u → form a (y.set i c) = form a y + p * ((c : Int) - (u : Int))
  | [], _, _, _, _, _, h, _ => by simp at h
  | _ :: _, [], _, _, _, _, _, h => by simp at h
  | d :: a, w :: y, 0, u, c, p, h, g => by
    have e1 : d = p := Option.some.inj h
    have e2 : w = u := Option.some.inj g
    subst e1 e2
    show d * (c : Int) + form a y = d * (w : Int) + form a y + d * ((c : Int) - (w : Int))
    rw [Int.mul_sub]
    omega
  | d :: a, w :: y, i + 1, u, c, p, h, g => by
    have ih := form_set (a := a) (y := y) (i := i) (u := u) (c := c) (p := p) h g
    show d * (w : Int) + form a (y.set i c) = d * (w : Int) + form a y + p * ((c : Int) - (u : Int))
    omega
theorem form_neg : ∀ (a : List Int) (x : List Nat), form (a.map fun c => -c) x = -form a x
  | [], _ => rfl
  | _ :: _, [] => rfl
  | c :: a, v :: x => by
    show -c * (v : Int) + form (a.map fun c => -c) x = -(c * (v : Int) + form a x)
    rw [form_neg a x, Int.neg_mul]
    omega
/-- minimal, by the document's words -/
structure IsMin (a : List Int) (x : List Nat) : Prop where
  sol : form a x = 0
  pos : 0 < x.sum
  least : ∀ y, le y x → form a y = 0 → 0 < y.sum → y = x
theorem sum_pos_of_at : ∀ {y : List Nat} {i c : Nat}, y[i]? = some c → 0 < c → 0 < y.sum
  | [], _, _, h, _ => by simp at h
  | w :: y, 0, c, h, hc => by
    have e : w = c := Option.some.inj h
    subst e
    rw [List.sum_cons]
    omega
  | w :: y, i + 1, c, h, hc => by
    have := sum_pos_of_at (y := y) (i := i) h hc
    rw [List.sum_cons]
    omega
theorem bound_pos {a : List Int} {x : List Nat} {M : Int} {i v : Nat} {p : Int} (hl : a.length = x.length) (hM : ∀ c ∈ a, -M ≤ c) (hi : a[i]? = some p) (hv : x[i]? = some v) (hp : 0 < p) (m : IsMin a x) (hM0 : 0 ≤ M) : (v : Int) ≤ M := by
  rcases Int.lt_or_le M (v : Int) with q | q
  · exfalso
    obtain ⟨P, rfl⟩ : ∃ P : Nat, p = (P : Int) := ⟨p.toNat, by omega⟩
    have hn := negPart_formAt hi hv (Int.le_of_lt hp)
    rw [m.sol] at hn
    have hlx := le_len (negPart_le a x)
    have hb := Neg.form (M := M) (by rw [hlx]; exact hl) hM (negPart_neg a x)
    have hs : P ≤ (negPart a x).sum := by
      rcases Nat.lt_or_ge (negPart a x).sum P with t | t
      · exfalso
        have h1 : M * ((negPart a x).sum : Int) ≤ M * (P : Int) := Int.mul_le_mul_of_nonneg_left (by omega) hM0
        have h2 : (P : Int) * M < (P : Int) * (v : Int) := Int.mul_lt_mul_of_pos_left q (by omega)
        rw [Int.mul_comm (P : Int) M] at h2
        omega
      · exact t
    obtain ⟨y, c, hy, hc1, hcM, hf⟩ := part (p := P) (by omega) (by rw [hlx]; exact hl) hM (negPart_neg a x) hs hM0
    have h0 : (negPart a x)[i]? = some 0 := negPart_at hi hv (Int.le_of_lt hp)
    obtain ⟨u, hu, hu0⟩ := le_at hy h0
    have eu : u = 0 := by omega
    subst eu
    have hset : (y.set i c)[i]? = some c := List.getElem?_set_self (List.getElem?_eq_some_iff.mp hu).1
    have e := m.least (y.set i c) (le_set (le_trans hy (negPart_le a x)) hv (by omega)) (by
      rw [form_set hi hu, hf]
      simp
      omega) (sum_pos_of_at hset (by omega))
    rw [e, hv] at hset
    have := Option.some.inj hset
    omega
  · exact q
theorem IsMin.neg {a : List Int} {x : List Nat} (m : IsMin a x) : IsMin (a.map fun c => -c) x :=
  ⟨by rw [form_neg, m.sol]; rfl, m.pos, fun y h f => m.least y h (by rw [form_neg] at f; omega)⟩
theorem bound_zero {a : List Int} {x : List Nat} {i v : Nat} (hi : a[i]? = some 0) (hv : x[i]? = some v) (m : IsMin a x) : v ≤ 1 := by
  rcases Nat.lt_or_ge 1 v with q | q
  · exfalso
    have hz : ∀ x : List Nat, le (x.map fun _ => 0) x := by
      intro x
      induction x with
      | nil => trivial
      | cons v x ih => exact ⟨Nat.zero_le _, ih⟩
    have hf : ∀ (a : List Int) (x : List Nat), form a (x.map fun _ => 0) = 0 := by
      intro a
      induction a with
      | nil => intro x; cases x <;> rfl
      | cons c a ih =>
        intro x
        cases x with
        | nil => rfl
        | cons v x =>
          show c * ((0 : Nat) : Int) + form a (x.map fun _ => 0) = 0
          rw [ih]
          simp
    have hu : (x.map fun _ => 0)[i]? = some 0 := by rw [List.getElem?_map, hv]; rfl
    have hset : ((x.map fun _ => 0).set i 1)[i]? = some 1 := List.getElem?_set_self (List.getElem?_eq_some_iff.mp hu).1
    have e := m.least ((x.map fun _ => 0).set i 1) (le_set (hz x) hv (by omega)) (by rw [form_set hi hu, hf]; simp) (sum_pos_of_at hset (by omega))
    rw [e, hv] at hset
    have := Option.some.inj hset
    omega
  · exact q
/-- the highest value of each place, beside the largest coefficient M -/
def highest (M : Nat) (a : List Int) : List Nat := a.map fun c => if c = 0 then 1 else M
theorem bound {a : List Int} {x : List Nat} {M : Nat} (hl : x.length = a.length) (hM : ∀ c ∈ a, -(M : Int) ≤ c ∧ c ≤ (M : Int)) (m : IsMin a x) : le x (highest M a) := by
  refine le_of_at (by rw [hl]; unfold highest; rw [List.length_map]) fun i u v hu hv => ?_
  unfold highest at hv
  rw [List.getElem?_map] at hv
  cases e : a[i]? with
  | none => rw [e] at hv; cases hv
  | some p =>
    rw [e] at hv
    have hv' : (if p = 0 then 1 else M) = v := Option.some.inj hv
    have hp := hM p (List.mem_of_getElem? e)
    split at hv'
    · rename_i q
      subst q hv'
      exact bound_zero e hu m
    · rename_i q
      subst hv'
      rcases Int.lt_or_le p 0 with t | t
      · have := bound_pos (M := (M : Int)) (p := -p) (by rw [List.length_map, hl]) (fun c hc => by
          rw [List.mem_map] at hc
          obtain ⟨d, hd, rfl⟩ := hc
          have := (hM d hd).2
          omega) (by rw [List.getElem?_map, e]; rfl) hu (by omega) m.neg (by omega)
        omega
      · have := bound_pos (M := (M : Int)) hl.symm (fun c hc => (hM c hc).1) e hu (by omega) m (by omega)
        omega
/-- below every solution but zero lies a minimal one -/
theorem below {a : List Int} : ∀ (n : Nat) {y : List Nat}, y.sum ≤ n → form a y = 0 → 0 < y.sum → ∃ m, le m y ∧ IsMin a m
  | 0, _, hn, _, h => by omega
  | n + 1, y, hn, hf, h => by
    by_cases q : ∃ z, le z y ∧ form a z = 0 ∧ 0 < z.sum ∧ z ≠ y
    · obtain ⟨z, hz, hfz, hz0, hne⟩ := q
      have hlt : z.sum < y.sum := by
        rcases Nat.lt_or_ge z.sum y.sum with t | t
        · exact t
        · exact absurd (le_sum_eq hz t) hne
      obtain ⟨m, hm, mm⟩ := below n (y := z) (by omega) hfz hz0
      exact ⟨m, le_trans hm hz, mm⟩
    · refine ⟨y, le_refl y, hf, h, fun z hz hfz hz0 => ?_⟩
      rcases Classical.em (z = y) with e | e
      · exact e
      · exact absurd ⟨z, hz, hfz, hz0, e⟩ q
/-! the specification's list -/
theorem any_pos : ∀ x : List Nat, (x.any fun v => v != 0) = decide (0 < x.sum)
  | [] => rfl
  | v :: x => by
    rw [List.any_cons, any_pos x, List.sum_cons]
    cases v with
    | zero => simp
    | succ v => simp; omega
theorem mem_nonzero {a : List Int} {y : List Nat} : y ∈ nonzeroSolutions a ↔ le y (List.replicate a.length 6) ∧ form a y = 0 ∧ 0 < y.sum := by
  unfold nonzeroSolutions
  rw [List.mem_filter, bounded_box, mem_box, Bool.and_eq_true, any_pos, decide_eq_true_iff]
  unfold isSolution
  rw [beq_iff_eq, evaluate_eq]
/-- minimal, as the specification's filter tells it -/
def minB (a : List Int) (x : List Nat) : Bool := (isSolution a x && x.any fun v => v != 0) && !((nonzeroSolutions a).any fun y => y != x && isContained y x)
theorem minB_iff {a : List Int} {x : List Nat} (hx : le x (List.replicate a.length 6)) : minB a x = true ↔ IsMin a x := by
  unfold minB
  rw [Bool.and_eq_true, Bool.and_eq_true, any_pos, decide_eq_true_iff]
  unfold isSolution
  rw [beq_iff_eq, evaluate_eq]
  constructor
  · rintro ⟨⟨h1, h2⟩, h3⟩
    refine ⟨h1, h2, fun y hy hf h0 => ?_⟩
    rcases Classical.em (y = x) with e | e
    · exact e
    · exfalso
      rw [Bool.not_eq_true', List.any_eq_false] at h3
      refine h3 y (mem_nonzero.mpr ⟨le_trans hy hx, hf, h0⟩) ?_
      rw [Bool.and_eq_true, (contained_iff (le_len hy)), bne_iff_ne]
      exact ⟨e, hy⟩
  · rintro m
    refine ⟨⟨m.sol, m.pos⟩, ?_⟩
    rw [Bool.not_eq_true', List.any_eq_false]
    intro y hy t
    rw [Bool.and_eq_true, bne_iff_ne] at t
    have hy' := mem_nonzero.mp hy
    have hl : y.length = x.length := (le_len hy'.1).trans (le_len hx).symm
    exact t.1 (m.least y ((contained_iff hl).mp t.2) hy'.2.1 hy'.2.2)
theorem minimal_filter (a : List Int) : minimalSolutions a = (boundedVectors a.length).filter (minB a) := by
  show (nonzeroSolutions a).filter (fun x => !((nonzeroSolutions a).any fun y => y != x && isContained y x)) = _
  conv => lhs; arg 2; unfold nonzeroSolutions
  rw [List.filter_filter]
  refine List.filter_congr fun x _ => ?_
  unfold minB
  rw [Bool.and_comm]
theorem le_highest {a : List Int} {M : Nat} (h6 : M ≤ 6) : le (highest M a) (List.replicate a.length 6) := by
  induction a with
  | nil => trivial
  | cons c a ih => exact ⟨by show (if c = 0 then 1 else M) ≤ 6; split <;> omega, ih⟩
theorem minimal_box {a : List Int} {M : Nat} (hM : ∀ c ∈ a, -(M : Int) ≤ c ∧ c ≤ (M : Int)) (h6 : M ≤ 6) : minimalSolutions a = (box (highest M a)).filter (minB a) := by
  rw [minimal_filter, bounded_box, box_filter (le_highest (a := a) h6), List.filter_filter]
  refine List.filter_congr fun x hx => ?_
  have hx' := mem_box.mp hx
  cases e : minB a x with
  | false => rfl
  | true =>
    have hl : x.length = a.length := by rw [le_len hx', List.length_replicate]
    have b := bound hl hM ((minB_iff hx').mp e)
    rw [(contained_iff (le_len b)).mpr b]
    rfl
/-! the loop -/
def step (a : List Int) (found : List (List Nat)) (v : List Nat) : List (List Nat) :=
  if (!(v.any fun k => k != 0)) = true ∨ form a v ≠ 0 then found else if (found.any fun u => isContained u v) = true then found else found ++ [v]
theorem loop {a : List Int} {M : Nat} (hM : ∀ c ∈ a, -(M : Int) ≤ c ∧ c ≤ (M : Int)) (h6 : M ≤ 6) : ∀ (post pre : List (List Nat)), box (highest M a) = pre ++ post → post.foldl (step a) (pre.filter (minB a)) = (box (highest M a)).filter (minB a)
  | [], pre, e => by rw [e, List.append_nil]; rfl
  | v :: post, pre, e => by
    rw [List.foldl_cons]
    have e' : box (highest M a) = (pre ++ [v]) ++ post := by rw [e, List.append_assoc]; rfl
    have hpw := box_pairwise (highest M a)
    rw [e, List.pairwise_append] at hpw
    obtain ⟨_, hpost, hcross⟩ := hpw
    have hv : v ∈ box (highest M a) := by rw [e]; exact List.mem_append_right _ (List.mem_cons_self ..)
    have hv1 := mem_box.mp hv
    have hv6 := le_trans hv1 (le_highest h6)
    have s : step a (pre.filter (minB a)) v = (pre ++ [v]).filter (minB a) := by
      rw [List.filter_append]
      unfold step
      by_cases q : (!(v.any fun k => k != 0)) = true ∨ form a v ≠ 0
      · rw [if_pos q]
        have n : minB a v = false := by
          rw [Bool.eq_false_iff]
          intro t
          have m := (minB_iff hv6).mp t
          rcases q with q | q
          · rw [any_pos, decide_eq_true m.pos] at q
            cases q
          · exact q m.sol
        rw [List.filter_cons, n]
        simp
      · rw [if_neg q]
        have hs : form a v = 0 := by
          rcases Classical.em (form a v = 0) with t | t
          · exact t
          · exact absurd (.inr t) q
        have h0 : 0 < v.sum := by
          rcases Nat.lt_or_ge 0 v.sum with t | t
          · exact t
          · refine absurd (.inl ?_) q
            rw [any_pos, decide_eq_false (by omega)]
            rfl
        by_cases r : ((pre.filter (minB a)).any fun u => isContained u v) = true
        · rw [if_pos r]
          have n : minB a v = false := by
            rw [Bool.eq_false_iff]
            intro t
            have m := (minB_iff hv6).mp t
            rw [List.any_eq_true] at r
            obtain ⟨u, hu, c⟩ := r
            rw [List.mem_filter] at hu
            have hu1 := mem_box.mp (show u ∈ box (highest M a) by rw [e]; exact List.mem_append_left _ hu.1)
            have mu := (minB_iff (le_trans hu1 (le_highest h6))).mp hu.2
            have c' := (contained_iff ((le_len hu1).trans (le_len hv1).symm)).mp c
            have euv := m.least u c' mu.sol mu.pos
            exact hcross u hu.1 v (List.mem_cons_self ..) (by rw [euv]; exact le_refl v)
          rw [List.filter_cons, n]
          simp
        · rw [if_neg r]
          have y : minB a v = true := by
            rw [minB_iff hv6]
            obtain ⟨m, hm, mm⟩ := below v.sum (Nat.le_refl _) hs h0
            have hmb : m ∈ box (highest M a) := mem_box.mpr (le_trans hm hv1)
            rw [e, List.mem_append] at hmb
            rcases hmb with t | t
            · exfalso
              refine r (List.any_eq_true.mpr ⟨m, List.mem_filter.mpr ⟨t, (minB_iff (le_trans hm hv6)).mpr mm⟩, (contained_iff (le_len hm)).mpr hm⟩)
            · rcases List.mem_cons.mp t with t | t
              · rw [← t]
                exact mm
              · exact absurd hm ((List.pairwise_cons.mp hpost).1 m t)
          rw [List.filter_cons, y]
          rfl
    rw [s]
    exact loop hM h6 post (pre ++ [v]) e'
/-- the program's loop gives the specification's list -/
theorem minimal_loop {a : List Int} {M : Nat} (hM : ∀ c ∈ a, -(M : Int) ≤ c ∧ c ≤ (M : Int)) (h6 : M ≤ 6) : (box (highest M a)).foldl (step a) [] = minimalSolutions a := by
  rw [minimal_box hM h6]
  exact loop hM h6 (box (highest M a)) [] rfl
end LM
namespace LM
open Ks605

def btw (lo hi n : Int) : Bool := decide (lo ≤ n) && decide (n ≤ hi)
def within (lo hi : Int) (ns : List Int) : Bool := ns.all fun n => btw lo hi n
/-- the coefficients are within their limits -/
def coefOk (ns : List Int) : Bool := (decide (1 ≤ (ns.length : Int)) && decide ((ns.length : Int) ≤ 4)) && within (-6) 6 ns
def vecOk (ns ms : List Int) : Bool := decide ((ms.length : Int) = (ns.length : Int)) && within 0 12 ms
def formI (ns ms : List Int) : Int := ((ns.zip ms).map fun p => p.1 * p.2).sum
def evalI (ns ms : List Int) : List Int := if coefOk ns = true ∧ vecOk ns ms = true then [if formI ns ms = 0 then 1 else 0, formI ns ms] else [-22]
theorem within_mem {lo hi n : Int} {ns : List Int} (h : within lo hi ns = true) (m : n ∈ ns) : lo ≤ n ∧ n ≤ hi := by
  have q := List.all_eq_true.mp h n m
  unfold btw at q
  rw [Bool.and_eq_true, decide_eq_true_iff, decide_eq_true_iff] at q
  exact q
theorem coef_mem {n : Int} {ns : List Int} (h : coefOk ns = true) (m : n ∈ ns) : -6 ≤ n ∧ n ≤ 6 := by
  unfold coefOk at h
  rw [Bool.and_eq_true] at h
  exact within_mem h.2 m
theorem coef_len {ns : List Int} (h : coefOk ns = true) : 1 ≤ ns.length ∧ ns.length ≤ 4 := by
  unfold coefOk at h
  rw [Bool.and_eq_true, Bool.and_eq_true, decide_eq_true_iff, decide_eq_true_iff] at h
  omega
theorem coef_spec (ns : List Int) : areValidCoefficients ns = coefOk ns := by
  unfold areValidCoefficients coefOk within btw maxVariables maxCoefficient
  congr 1
  · congr 1
    · exact decide_eq_decide.mpr (by omega)
    · exact decide_eq_decide.mpr (by omega)
  · congr 1
    funext v
    rw [← Bool.decide_and]
    exact decide_eq_decide.mpr (by omega)
theorem vec_spec {ns ms : List Int} (h0 : ∀ m ∈ ms, 0 ≤ m) : isValidVector ns.length (ms.map Int.toNat) = vecOk ns ms := by
  unfold isValidVector vecOk within btw
  rw [List.length_map, List.all_map]
  congr 1
  · rw [Bool.eq_iff_iff, beq_iff_eq, decide_eq_true_iff]
    omega
  · rw [Bool.eq_iff_iff, List.all_eq_true, List.all_eq_true]
    refine forall_congr' fun m => forall_congr' fun hm => ?_
    have := h0 m hm
    show (decide (m.toNat ≤ 12) = true ↔ (decide (0 ≤ m) && decide (m ≤ 12)) = true)
    rw [Bool.and_eq_true, decide_eq_true_iff, decide_eq_true_iff, decide_eq_true_iff]
    omega
theorem form_spec : ∀ {ns ms : List Int}, (∀ m ∈ ms, 0 ≤ m) → form ns (ms.map Int.toNat) = formI ns ms
  | [], ms, _ => by cases ms <;> rfl
  | _ :: _, [], _ => rfl
  | n :: ns, m :: ms, h => by
    have ih := form_spec (ns := ns) (ms := ms) fun k hk => h k (List.mem_cons_of_mem _ hk)
    show n * ((m.toNat : Nat) : Int) + form ns (ms.map Int.toNat) = (n * m :: ((ns.zip ms).map fun p => p.1 * p.2)).sum
    rw [List.sum_cons, ih, Int.toNat_of_nonneg (h m (List.mem_cons_self ..))]
    rfl
theorem eval_spec {ns ms : List Int} (h0 : ∀ m ∈ ms, 0 ≤ m) : PyKs605.evaluate ns ms = evalI ns ms := by
  show Ks605Neutral.integers (Ks605.answer (.evaluate ns (ms.map Int.toNat))) = _
  show Ks605Neutral.integers (if areValidCoefficients ns = true then (if isValidVector ns.length (ms.map Int.toNat) = true then { value := if isSolution ns (ms.map Int.toNat) then 1 else 0, rest := [evaluate ns (ms.map Int.toNat)] } else number (-22)) else number (-22)) = _
  unfold evalI
  rw [coef_spec, vec_spec h0]
  unfold isSolution
  rw [evaluate_eq, form_spec h0]
  cases coefOk ns with
  | false => rfl
  | true =>
    cases vecOk ns ms with
    | false => rfl
    | true =>
      show [(if (formI ns ms == 0) = true then 1 else 0 : Int), formI ns ms] = if true = true ∧ true = true then [if formI ns ms = 0 then 1 else 0, formI ns ms] else [-22]
      rw [if_pos (show true = true ∧ true = true from ⟨rfl, rfl⟩)]
      by_cases z : formI ns ms = 0
      · rw [if_pos (beq_iff_eq.mpr z), if_pos z]
      · rw [if_neg (fun q => z (beq_iff_eq.mp q)), if_neg z]
end LM
namespace LM
open Ks605
def minI (ns : List Int) : List Int := if coefOk ns = true then ((minimalSolutions ns).length : Int) :: (minimalSolutions ns).flatMap integers else [-22]
theorem minimal_spec (ns : List Int) : PyKs605.minimal_solutions ns = minI ns := by
  show Ks605Neutral.integers (Ks605.answer (.minimalSolutions ns)) = _
  show Ks605Neutral.integers (if areValidCoefficients ns = true then { value := (minimalSolutions ns).length, rest := (minimalSolutions ns).flatMap integers } else number (-22)) = _
  unfold minI
  rw [coef_spec]
  cases coefOk ns with
  | false => rfl
  | true => rfl
theorem min_mem {ns : List Int} {v : List Nat} (h : v ∈ minimalSolutions ns) : le v (List.replicate ns.length 6) ∧ IsMin ns v := by
  rw [minimal_filter, List.mem_filter, bounded_box] at h
  have b := mem_box.mp h.1
  exact ⟨b, (minB_iff b).mp h.2⟩
end LM
namespace LM
open Ks605
set_option linter.unusedVariables false
/-! ### how often a vector fits, and what is left -/
theorem subtract_eq : ∀ x y : List Nat, subtract x y = sub x y
  | [], _ => rfl
  | _ :: _, [] => rfl
  | v :: x, u :: y => by
    show (v - u) :: subtract x y = (v - u) :: sub x y
    rw [subtract_eq x y]
theorem sub_len : ∀ {y x : List Nat}, y.length = x.length → (sub x y).length = x.length
  | [], [], _ => rfl
  | u :: y, v :: x, h => by
    show (sub x y).length + 1 = x.length + 1
    rw [sub_len (y := y) (x := x) (by simpa using h)]
  | [], _ :: _, h => by simp at h
  | _ :: _, [], h => by simp at h
def times (k : Nat) (v : List Nat) : List Nat := v.map fun u => k * u
def left (k : Nat) (v x : List Nat) : List Nat := (v.zip x).map fun p => p.2 - k * p.1
theorem left_len {k : Nat} {v x : List Nat} (h : v.length = x.length) : (left k v x).length = x.length := by
  unfold left
  rw [List.length_map, List.length_zip]
  omega
theorem left_zero : ∀ {v x : List Nat}, v.length = x.length → left 0 v x = x
  | [], [], _ => rfl
  | u :: v, w :: x, h => by
    show (w - 0 * u) :: left 0 v x = w :: x
    rw [left_zero (v := v) (x := x) (by simpa using h), Nat.zero_mul, Nat.sub_zero]
  | [], _ :: _, h => by simp at h
  | _ :: _, [], h => by simp at h
theorem left_succ (k : Nat) : ∀ v x : List Nat, left (k + 1) v x = left k v (sub x v)
  | [], _ => rfl
  | _ :: _, [] => rfl
  | u :: v, w :: x => by
    show (w - (k + 1) * u) :: left (k + 1) v x = (w - u - k * u) :: left k v (sub x v)
    rw [left_succ k v x, Nat.succ_mul]
    congr 1
    omega
theorem left_le : ∀ {k : Nat} {v x : List Nat}, v.length = x.length → le (left k v x) x
  | _, [], [], _ => trivial
  | k, u :: v, w :: x, h => ⟨Nat.sub_le _ _, left_le (by simpa using h)⟩
  | _, [], _ :: _, h => by simp at h
  | _, _ :: _, [], h => by simp at h
theorem times_one : ∀ v : List Nat, times 1 v = v
  | [] => rfl
  | u :: v => by
    show 1 * u :: times 1 v = u :: v
    rw [times_one v, Nat.one_mul]
theorem times_sum (k : Nat) : ∀ v : List Nat, (times k v).sum = k * v.sum
  | [] => rfl
  | u :: v => by
    show (k * u :: times k v).sum = k * (u :: v).sum
    rw [List.sum_cons, List.sum_cons, times_sum k v, Nat.mul_add]
theorem times_mono {k l : Nat} (h : k ≤ l) : ∀ v : List Nat, le (times k v) (times l v)
  | [] => trivial
  | u :: v => ⟨Nat.mul_le_mul_right u h, times_mono h v⟩
theorem times_sub {k : Nat} : ∀ {v x : List Nat}, le v x → (le (times k v) (sub x v) ↔ le (times (k + 1) v) x)
  | [], [], _ => Iff.rfl
  | u :: v, w :: x, h => by
    have ih := times_sub (k := k) h.2
    have h1 := h.1
    show (k * u ≤ w - u ∧ le (times k v) (sub x v)) ↔ ((k + 1) * u ≤ w ∧ le (times (k + 1) v) x)
    rw [ih, Nat.succ_mul]
    exact and_congr (by omega) Iff.rfl
  | [], _ :: _, h => h.elim
  | _ :: _, [], h => h.elim
/-- k times, and no more -/
def IsTc (v x : List Nat) (k : Nat) : Prop := le (times k v) x ∧ ¬ le (times (k + 1) v) x
def tcF : Nat → List Nat → List Nat → Nat
  | 0, _, _ => 0
  | f + 1, v, x => if isContained v x = true then tcF f v (sub x v) + 1 else 0
def tc (v x : List Nat) : Nat := tcF x.sum v x
theorem tcF_of {v : List Nat} (hv : 0 < v.sum) : ∀ {f : Nat} {x : List Nat} {k : Nat}, v.length = x.length → x.sum ≤ f → IsTc v x k → tcF f v x = k
  | 0, x, k, hl, hs, ⟨h1, _⟩ => by
    have t := le_sum h1
    rw [times_sum] at t
    cases k with
    | zero => rfl
    | succ k =>
      rw [Nat.succ_mul] at t
      omega
  | f + 1, x, 0, hl, hs, ⟨_, h2⟩ => by
    rw [times_one] at h2
    show (if isContained v x = true then tcF f v (sub x v) + 1 else 0) = 0
    rw [if_neg (fun c => h2 ((contained_iff hl).mp c))]
  | f + 1, x, k + 1, hl, hs, ⟨h1, h2⟩ => by
    have hc : le v x := by
      have t := le_trans (times_mono (Nat.succ_le_succ (Nat.zero_le k)) v) h1
      rw [times_one] at t
      exact t
    show (if isContained v x = true then tcF f v (sub x v) + 1 else 0) = k + 1
    rw [if_pos ((contained_iff hl).mpr hc)]
    have hsum := sub_sum hc
    rw [tcF_of hv (f := f) (x := sub x v) (k := k) (by rw [sub_len hl]; exact hl) (by omega) ⟨(times_sub hc).mpr h1, fun t => h2 ((times_sub hc).mp t)⟩]
theorem tc_of {v x : List Nat} {k : Nat} (hv : 0 < v.sum) (hl : v.length = x.length) (h : IsTc v x k) : tc v x = k := tcF_of hv hl (Nat.le_refl _) h
theorem tcF_is {v : List Nat} (hv : 0 < v.sum) : ∀ {f : Nat} {x : List Nat}, v.length = x.length → x.sum ≤ f → IsTc v x (tcF f v x)
  | f, x, hl, hs => by
    by_cases c : le v x
    · cases f with
      | zero => 
        have := le_sum c
        omega
      | succ f =>
        have e : tcF (f + 1) v x = tcF f v (sub x v) + 1 := if_pos ((contained_iff hl).mpr c)
        have hsum := sub_sum c
        have ih := tcF_is hv (f := f) (x := sub x v) (by rw [sub_len hl]; exact hl) (by omega)
        rw [e]
        exact ⟨(times_sub c).mp ih.1, fun t => ih.2 ((times_sub c).mpr t)⟩
    · have e : tcF f v x = 0 := by
        cases f with
        | zero => rfl
        | succ f => exact if_neg fun t => c ((contained_iff hl).mp t)
      rw [e]
      refine ⟨?_, by rw [times_one]; exact c⟩
      have z : ∀ {v x : List Nat}, v.length = x.length → le (times 0 v) x := by
        intro v
        induction v with
        | nil => intro x h; cases x with
          | nil => trivial
          | cons _ _ => simp at h
        | cons u v ih => intro x h; cases x with
          | nil => simp at h
          | cons w x => exact ⟨by show 0 * u ≤ w; omega, ih (by simpa using h)⟩
      exact z hl
/-- the smallest quotient tells how often -/
theorem isTc_of {v x : List Nat} {k : Nat} (hl : v.length = x.length) (h1 : ∀ p ∈ v.zip x, 0 < p.1 → k ≤ p.2 / p.1) (h2 : ∃ p ∈ v.zip x, 0 < p.1 ∧ k = p.2 / p.1) : IsTc v x k := by
  constructor
  · clear h2
    induction v generalizing x with
    | nil => cases x with
      | nil => trivial
      | cons _ _ => simp at hl
    | cons u v ih => cases x with
      | nil => simp at hl
      | cons w x =>
        refine ⟨?_, ih (by simpa using hl) fun p hp => h1 p (List.mem_cons_of_mem _ hp)⟩
        show k * u ≤ w
        rcases Nat.eq_zero_or_pos u with z | z
        · rw [z]
          omega
        · have t := h1 (u, w) (List.mem_cons_self ..) z
          exact (Nat.le_div_iff_mul_le z).mp t
  · obtain ⟨p, hp, h0, e⟩ := h2
    clear h1
    induction v generalizing x with
    | nil => simp at hp
    | cons u v ih => cases x with
      | nil => simp at hp
      | cons w x =>
        rintro ⟨t1, t2⟩
        rcases List.mem_cons.mp hp with q | q
        · subst q
          have t1' : (k + 1) * u ≤ w := t1
          have : k + 1 ≤ w / u := (Nat.le_div_iff_mul_le h0).mpr t1'
          have e' : k = w / u := e
          omega
        · exact ih (by simpa using hl) q t2
theorem tc_left {v x : List Nat} (hv : 0 < v.sum) (hl : v.length = x.length) : ∀ p ∈ v.zip x, tc v x * p.1 ≤ p.2 := by
  have h := (tcF_is hv hl (Nat.le_refl x.sum)).1
  have go : ∀ {v x : List Nat} {k : Nat}, le (times k v) x → ∀ p ∈ v.zip x, k * p.1 ≤ p.2 := by
    intro v
    induction v with
    | nil => intro x k _ p hp; simp at hp
    | cons u v ih => intro x k h p hp; cases x with
      | nil => simp at hp
      | cons w x =>
        rcases List.mem_cons.mp hp with q | q
        · rw [q]
          exact h.1
        · exact ih h.2 p q
  exact go h
end LM
namespace LM
open Ks605
/-! ### the greedy decomposition -/
/-- how often each one is subtracted, one vector behind the other -/
def greedy : List (List Nat) → List Nat → List Nat
  | [], _ => []
  | v :: vs, x => tc v x :: greedy vs (left (tc v x) v x)
/-- the specification's steps over any list of vectors -/
def parts (vs : List (List Nat)) : Nat → List Nat → List Nat
  | 0, _ => []
  | f + 1, x => if x.all (fun v => v == 0) = true then [] else match vs.findIdx? fun y => isContained y x with
    | none => []
    | some i => i :: parts vs f (subtract x (vs.getD i []))
theorem parts_succ (vs : List (List Nat)) (f : Nat) (x : List Nat) : parts vs (f + 1) x = if x.all (fun v => v == 0) = true then [] else match vs.findIdx? fun y => isContained y x with
    | none => []
    | some i => i :: parts vs f (subtract x (vs.getD i [])) := rfl
theorem greedyParts_eq (a : List Int) : ∀ (f : Nat) (x : List Nat), greedyParts a f x = parts (minimalSolutions a) f x
  | 0, _ => rfl
  | f + 1, x => by
    show (if x.all (fun v => v == 0) = true then [] else match (minimalSolutions a).findIdx? fun y => isContained y x with
      | none => []
      | some i => i :: greedyParts a f (subtract x ((minimalSolutions a).getD i []))) = parts (minimalSolutions a) (f + 1) x
    unfold parts
    split
    · rfl
    · split
      · rfl
      · rw [greedyParts_eq a f]
def cnt (n : Nat) (ps : List Nat) : List Nat := (List.range n).map fun i => (ps.filter fun j => j == i).length
theorem cnt_len (n : Nat) (ps : List Nat) : (cnt n ps).length = n := by
  unfold cnt
  rw [List.length_map, List.length_range]
theorem cnt_up (n : Nat) (ps : List Nat) (t : Nat) : cnt (n + 1) (List.replicate t 0 ++ ps.map fun i => i + 1) = t :: cnt n ps := by
  unfold cnt
  rw [List.range_succ_eq_map, List.map_cons, List.map_map]
  congr 1
  · rw [List.filter_append, List.length_append]
    have e1 : List.filter (fun j => j == 0) (List.replicate t 0) = List.replicate t 0 := by
      rw [List.filter_replicate]
      simp
    have e2 : List.filter (fun j => j == 0) (ps.map fun i => i + 1) = [] := by
      rw [List.filter_eq_nil_iff]
      intro j hj
      rw [List.mem_map] at hj
      obtain ⟨i, _, rfl⟩ := hj
      simp
    rw [e1, e2, List.length_replicate]
    rfl
  · refine List.map_congr_left fun i _ => ?_
    show (List.filter (fun j => j == i + 1) (List.replicate t 0 ++ ps.map fun i => i + 1)).length = (List.filter (fun j => j == i) ps).length
    rw [List.filter_append, List.filter_map, List.length_append, List.length_map]
    have e1 : List.filter (fun j => j == i + 1) (List.replicate t 0) = [] := by
      rw [List.filter_eq_nil_iff]
      intro j hj
      rw [List.eq_of_mem_replicate hj]
      simp
    rw [e1, List.length_nil, Nat.zero_add]
    congr 2
    funext j
    show (j + 1 == i + 1) = (j == i)
    rw [Bool.eq_iff_iff, beq_iff_eq, beq_iff_eq]
    omega
theorem all_zero : ∀ x : List Nat, (x.all (fun v => v == 0)) = decide (x.sum = 0)
  | [] => rfl
  | v :: x => by
    rw [List.all_cons, all_zero x, List.sum_cons, Bool.eq_iff_iff, Bool.and_eq_true, beq_iff_eq, decide_eq_true_iff, decide_eq_true_iff]
    omega
/-- what is not contained has no turn any more -/
theorem parts_skip {v : List Nat} {vs : List (List Nat)} : ∀ (f : Nat) {x : List Nat}, v.length = x.length → (∀ u ∈ vs, u.length = x.length) → ¬ le v x → parts (v :: vs) f x = (parts vs f x).map fun i => i + 1
  | 0, _, _, _, _ => rfl
  | f + 1, x, hl, hls, hn => by
    have hc : isContained v x = false := by
      cases e : isContained v x with
      | false => rfl
      | true => exact absurd ((contained_iff hl).mp e) hn
    rw [parts_succ, parts_succ]
    split
    · rfl
    · rw [List.findIdx?_cons, hc]
      rw [if_neg (by exact Bool.false_ne_true)]
      cases e : vs.findIdx? fun y => isContained y x with
      | none => rfl
      | some i =>
        show (i + 1) :: parts (v :: vs) f (subtract x ((v :: vs).getD (i + 1) [])) = (i + 1) :: (parts vs f (subtract x (vs.getD i []))).map fun i => i + 1
        have hi := (List.findIdx?_eq_some_iff_getElem.mp e).1
        have eg : (v :: vs).getD (i + 1) [] = vs.getD i [] := rfl
        have eu : vs.getD i [] = vs[i] := by
          rw [List.getD_eq_getElem?_getD, List.getElem?_eq_getElem hi]
          rfl
        have hu := hls _ (List.getElem_mem hi)
        rw [eg, eu, subtract_eq]
        have hsl : (sub x vs[i]).length = x.length := sub_len hu
        have hcu : le vs[i] x := (contained_iff hu).mp (List.findIdx?_eq_some_iff_getElem.mp e).2.1
        rw [parts_skip f (by rw [hsl]; exact hl) (fun w hw => by rw [hsl]; exact hls w hw) fun t => hn (le_trans t (sub_le hcu))]
theorem parts_cons {v : List Nat} {vs : List (List Nat)} (hv : 0 < v.sum) : ∀ (f : Nat) {x : List Nat}, v.length = x.length → (∀ u ∈ vs, u.length = x.length) → x.sum < f →
    ∃ g, (left (tc v x) v x).sum < g ∧ parts (v :: vs) f x = List.replicate (tc v x) 0 ++ (parts vs g (left (tc v x) v x)).map fun i => i + 1
  | 0, _, _, _, h => by omega
  | f + 1, x, hl, hls, hf => by
    by_cases c : le v x
    · have hsum := sub_sum c
      have hsl := sub_len hl
      obtain ⟨g, hg, ih⟩ := parts_cons hv f (x := sub x v) (by rw [hsl]; exact hl) (fun u hu => by rw [hsl]; exact hls u hu) (by omega)
      have ht := tcF_is hv (f := (sub x v).sum) (x := sub x v) (by rw [hsl]; exact hl) (Nat.le_refl _)
      have e : tc v x = tc v (sub x v) + 1 := tc_of hv hl ⟨(times_sub c).mp ht.1, fun t => ht.2 ((times_sub c).mpr t)⟩
      refine ⟨g, by rw [e, left_succ]; exact hg, ?_⟩
      rw [e, left_succ, List.replicate_succ, List.cons_append, ← ih]
      have hx : (x.all fun v => v == 0) = false := by
        rw [all_zero]
        exact decide_eq_false (by have := le_sum c; omega)
      show (if x.all (fun v => v == 0) = true then [] else match (v :: vs).findIdx? fun y => isContained y x with
        | none => []
        | some i => i :: parts (v :: vs) f (subtract x ((v :: vs).getD i []))) = _
      rw [hx, if_neg (by exact Bool.false_ne_true), List.findIdx?_cons, (contained_iff hl).mpr c]
      show 0 :: parts (v :: vs) f (subtract x v) = _
      rw [subtract_eq]
    · have ht : IsTc v x 0 := by
        have t := tcF_is hv (f := x.sum) (x := x) hl (Nat.le_refl _)
        have e : tcF x.sum v x = 0 := by
          cases x.sum with
          | zero => rfl
          | succ f => exact if_neg fun t => c ((contained_iff hl).mp t)
        rw [e] at t
        exact t
      have e : tc v x = 0 := tc_of hv hl ht
      refine ⟨f + 1, by rw [e, left_zero hl]; exact hf, ?_⟩
      rw [e, left_zero hl, parts_skip (f + 1) hl hls c]
      rfl
theorem greedy_parts : ∀ {vs : List (List Nat)} {x : List Nat} {f : Nat}, (∀ v ∈ vs, v.length = x.length ∧ 0 < v.sum) → x.sum < f → cnt vs.length (parts vs f x) = greedy vs x
  | [], _, _, _, _ => rfl
  | v :: vs, x, f, h, hf => by
    have hv := h v (List.mem_cons_self ..)
    have hvs : ∀ u ∈ vs, u.length = x.length ∧ 0 < u.sum := fun u hu => h u (List.mem_cons_of_mem _ hu)
    obtain ⟨g, hg, e⟩ := parts_cons (vs := vs) hv.2 f hv.1 (fun u hu => (hvs u hu).1) hf
    rw [e, List.length_cons, cnt_up]
    have hl := left_len (k := tc v x) hv.1
    rw [greedy_parts (fun u hu => ⟨by rw [hl]; exact (hvs u hu).1, (hvs u hu).2⟩) hg]
    rfl
theorem decompose_eq {a : List Int} {x : List Nat} (hl : x.length = a.length) : decompose a x = greedy (minimalSolutions a) x := by
  show cnt (minimalSolutions a).length (greedyParts a (x.sum + 1) x) = _
  rw [greedyParts_eq]
  refine greedy_parts (fun v hv => ?_) (Nat.lt_succ_self _)
  have m := min_mem hv
  exact ⟨by rw [le_len m.1, List.length_replicate, hl], m.2.pos⟩
/-- what is due of decompose -/
def decI (ns ms : List Int) : List Int := if coefOk ns = true ∧ vecOk ns ms = true then (if formI ns ms = 0 then (((greedy (minimalSolutions ns) (ms.map Int.toNat)).sum : Nat) : Int) :: (greedy (minimalSolutions ns) (ms.map Int.toNat)).map Int.ofNat else [-33]) else [-22]
theorem vec_len {ns ms : List Int} (h : vecOk ns ms = true) : ms.length = ns.length := by
  unfold vecOk at h
  rw [Bool.and_eq_true, decide_eq_true_iff] at h
  omega
theorem vec_mem {n : Int} {ns ms : List Int} (h : vecOk ns ms = true) (m : n ∈ ms) : 0 ≤ n ∧ n ≤ 12 := by
  unfold vecOk at h
  rw [Bool.and_eq_true] at h
  exact within_mem h.2 m
theorem dec_spec {ns ms : List Int} (h0 : ∀ m ∈ ms, 0 ≤ m) : PyKs605.decompose ns ms = decI ns ms := by
  show Ks605Neutral.integers (Ks605.answer (.decompose ns (ms.map Int.toNat))) = _
  show Ks605Neutral.integers (if areValidCoefficients ns = true then (if isValidVector ns.length (ms.map Int.toNat) = true then (if isSolution ns (ms.map Int.toNat) = false then number (-33) else { value := ((decompose ns (ms.map Int.toNat)).sum : Nat), rest := integers (decompose ns (ms.map Int.toNat)) }) else number (-22)) else number (-22)) = _
  unfold decI
  rw [coef_spec, vec_spec h0]
  unfold isSolution
  rw [evaluate_eq, form_spec h0]
  cases coefOk ns with
  | false => rfl
  | true =>
    cases e : vecOk ns ms with
    | false => rfl
    | true =>
      rw [if_pos rfl, if_pos rfl, if_pos (show true = true ∧ true = true from ⟨rfl, rfl⟩)]
      by_cases z : formI ns ms = 0
      · rw [if_pos z, if_neg (by rw [z]; decide), decompose_eq (by rw [List.length_map]; exact vec_len e)]
        rfl
      · rw [if_neg z, if_pos (by rw [beq_eq_false_iff_ne]; exact z)]
        rfl
end LM
namespace LM
open Ks605
/-! ### what is due of smallest_with and contained_solutions -/
def smI (i : Int) (ns : List Int) : List Int := if coefOk ns = true then (if ns.length ≤ i.toNat then [-2] else match smallestWith ns i.toNat with
    | none => [-33]
    | some v => ((v.sum : Nat) : Int) :: v.map Int.ofNat) else [-22]
theorem sm_spec (i : Int) (ns : List Int) : PyKs605.smallest_with i ns = smI i ns := by
  show Ks605Neutral.integers (Ks605.answer (.smallestWith i.toNat ns)) = _
  show Ks605Neutral.integers (if areValidCoefficients ns = true then (if ns.length ≤ i.toNat then number (-2) else match smallestWith ns i.toNat with
    | none => number (-33)
    | some v => { value := v.sum, rest := integers v }) else number (-22)) = _
  unfold smI
  rw [coef_spec]
  cases coefOk ns with
  | false => rfl
  | true =>
    rw [if_pos rfl, if_pos rfl]
    by_cases h : ns.length ≤ i.toNat
    · rw [if_pos h, if_pos h]
      rfl
    · rw [if_neg h, if_neg h]
      cases smallestWith ns i.toNat with
      | none => rfl
      | some v => rfl
/-- the best so far: none, or the first of the smallest sum -/
def better (i : Nat) (b : Option (List Nat)) (v : List Nat) : Option (List Nat) := if v.getD i 0 = 0 then b else match b with
  | none => some v
  | some u => if v.sum < u.sum then some v else some u
theorem better_some (i : Nat) : ∀ (l : List (List Nat)) (u : List Nat), l.foldl (better i) (some u) = some ((l.filter fun x => x.getD i 0 != 0).foldl (fun best x => if x.sum < best.sum then x else best) u)
  | [], _ => rfl
  | v :: l, u => by
    rw [List.foldl_cons, List.filter_cons]
    by_cases h : v.getD i 0 = 0
    · have e : better i (some u) v = some u := if_pos h
      have hb : ¬ (v.getD i 0 != 0) = true := by rw [bne_iff_ne]; exact fun t => t h
      rw [e, better_some i l u, if_neg hb]
    · have e : better i (some u) v = if v.sum < u.sum then some v else some u := if_neg h
      have hb : (v.getD i 0 != 0) = true := by rw [bne_iff_ne]; exact h
      rw [e, if_pos hb, List.foldl_cons]
      by_cases q : v.sum < u.sum
      · rw [if_pos q, if_pos q, better_some i l v]
      · rw [if_neg q, if_neg q, better_some i l u]
theorem smallest_eq (a : List Int) (i : Nat) : smallestWith a i = (minimalSolutions a).foldl (better i) none := by
  unfold smallestWith
  generalize minimalSolutions a = l
  induction l with
  | nil => rfl
  | cons v l ih =>
    rw [List.foldl_cons, List.filter_cons]
    by_cases h : v.getD i 0 = 0
    · have e : better i none v = none := if_pos h
      have hb : ¬ (v.getD i 0 != 0) = true := by rw [bne_iff_ne]; exact fun t => t h
      rw [e, ← ih, if_neg hb]
    · have e : better i none v = some v := if_neg h
      have hb : (v.getD i 0 != 0) = true := by rw [bne_iff_ne]; exact h
      rw [e, if_pos hb, better_some i l v]
/-- the numbers of those that lie in x, the first one's number told -/
def numbers (x : List Nat) : Nat → List (List Nat) → List Nat
  | _, [] => []
  | n, v :: vs => if isContained v x = true then n :: numbers x (n + 1) vs else numbers x (n + 1) vs
theorem numbers_eq (x : List Nat) : ∀ (vs : List (List Nat)) (n : Nat), ((List.range vs.length).filter fun i => isContained (vs.getD i []) x).map (fun i => i + n) = numbers x n vs
  | [], _ => rfl
  | v :: vs, n => by
    have ih := numbers_eq x vs (n + 1)
    rw [List.length_cons, List.range_succ_eq_map, List.filter_cons, List.filter_map]
    have e : ((fun i => isContained ((v :: vs).getD i []) x) ∘ Nat.succ) = fun i => isContained (vs.getD i []) x := rfl
    have m : (List.map (fun i => i + n) (List.map Nat.succ (List.filter (fun i => isContained (vs.getD i []) x) (List.range vs.length)))) = numbers x (n + 1) vs := by
      rw [← ih, List.map_map]
      refine List.map_congr_left fun i _ => ?_
      show i + 1 + n = i + (n + 1)
      omega
    rw [e]
    show (List.map (fun i => i + n) (if isContained v x = true then _ else _)) = if isContained v x = true then n :: numbers x (n + 1) vs else numbers x (n + 1) vs
    by_cases c : isContained v x = true
    · rw [if_pos c, if_pos c, List.map_cons, m, Nat.zero_add]
    · rw [if_neg c, if_neg c, m]
theorem contained_eq (a : List Int) (x : List Nat) : containedSolutions a x = numbers x 0 (minimalSolutions a) := by
  rw [← numbers_eq]
  show _ = List.map (fun i => i) _
  rw [List.map_id']
  rfl
def ctI (ns ms : List Int) : List Int := if coefOk ns = true ∧ vecOk ns ms = true then (((numbers (ms.map Int.toNat) 0 (minimalSolutions ns)).length : Nat) : Int) :: (numbers (ms.map Int.toNat) 0 (minimalSolutions ns)).map Int.ofNat else [-22]
theorem ct_spec {ns ms : List Int} (h0 : ∀ m ∈ ms, 0 ≤ m) : PyKs605.contained_solutions ns ms = ctI ns ms := by
  show Ks605Neutral.integers (Ks605.answer (.containedSolutions ns (ms.map Int.toNat))) = _
  show Ks605Neutral.integers (if areValidCoefficients ns = true then (if isValidVector ns.length (ms.map Int.toNat) = true then { value := (containedSolutions ns (ms.map Int.toNat)).length, rest := integers (containedSolutions ns (ms.map Int.toNat)) } else number (-22)) else number (-22)) = _
  unfold ctI
  rw [coef_spec, vec_spec h0, contained_eq]
  cases coefOk ns with
  | false => rfl
  | true =>
    cases vecOk ns ms with
    | false => rfl
    | true => rfl
end LM
namespace LS
open PySem PySem.Spec PyProof.Rows L2
open PySem.W (Codec)
open LM (btw within coefOk vecOk formI evalI within_mem coef_mem)
def top (i : Nat) : Stmt := PySem.Challenge.pw_leastsums_s05_smallest_with.main.body.getD i (.Pass ⟨0, 0, 0, 0⟩)
abbrev sSW : Stmt := top 6
abbrev sCA : Stmt := top 7
abbrev sAB : Stmt := top 8
abbrev sMV : Stmt := top 9
abbrev sHV : Stmt := top 10
abbrev sVU : Stmt := top 11
abbrev sFV : Stmt := top 12
abbrev sCO : Stmt := top 13
abbrev sIC : Stmt := top 14
/-- a list of whole numbers at a -/
abbrev Ints (K : PySem.W.Frag) (H : Hp) (a : Addr) (ns : List Int) : Prop := SqL K H a (ns.map V.int)
theorem Same.new {H H' : Hp} {p : Addr} {o : HO} (s : Same H H') (h : H' p = none) : Same H (upd H' p o) := fun b u e => by
  rw [upd_ne (ne_of_none (s b u e) h)]
  exact s b u e
/-- what was new at the start is changed -/
theorem Same.put {H H' : Hp} {p : Addr} {o : HO} (s : Same H H') (h : H p = none) : Same H (upd H' p o) := fun b u e => by
  rw [upd_ne (ne_of_none e h)]
  exact s b u e
theorem map_at {α : Type} {f : α → V} {l : List α} {i : Nat} {x : V} (h : (l.map f)[i]? = some x) : ∃ z, l[i]? = some z ∧ x = f z := by
  rw [List.getElem?_map] at h
  cases e : l[i]? with
  | none => rw [e] at h; cases h
  | some z => rw [e] at h; exact ⟨z, rfl, (Option.some.inj h).symm⟩
theorem take_snoc {α : Type} : ∀ {l : List α} {i : Nat} {x : α}, l[i]? = some x → l.take (i + 1) = l.take i ++ [x]
  | [], i, x, h => by simp at h
  | a :: l, 0, x, h => by
    have e : a = x := Option.some.inj h
    subst e
    rfl
  | a :: l, i + 1, x, h => by
    have ih := take_snoc (l := l) (i := i) (x := x) h
    show a :: l.take (i + 1) = a :: l.take i ++ [x]
    rw [ih]
    rfl
/-- a turn of a comprehension: the new list grows by one -/
theorem lc_put {α : Type} {ns : List α} {f : α → V} {H0 H4 : Hp} {D : Addr} {i : Nat} {z : α} {y : V} (s : Same H0 H4) (hD : H0 D = none) (hd : H4 D = some (.lst ((ns.take i).map f))) (hz : ns[i]? = some z) (hy : y = f z) (hlen : ns.length ≤ 1000) :
    ∃ acc, H4 D = some (.lst acc) ∧ acc.length < sizeLine ∧ Same H0 (upd H4 D (.lst (acc ++ [y]))) ∧ upd H4 D (.lst (acc ++ [y])) D = some (.lst ((ns.take (i + 1)).map f)) := by
  refine ⟨_, hd, ?_, Same.put s hD, ?_⟩
  · rw [List.length_map, List.length_take]
    exact small1000 (Nat.le_trans (Nat.min_le_right _ _) hlen)
  · rw [upd_same, take_snoc hz, List.map_append, hy]
    rfl
theorem vint_eq (x y : Int) : decide (V.int x = V.int y) = decide (x = y) := by
  by_cases h : x = y
  · rw [h, decide_eq_true rfl, decide_eq_true rfl]
  · rw [decide_eq_false h, decide_eq_false (fun e => h (V.int.inj e))]
/-- a def of the text as it stands behind the top: its object, its name, how its arguments bind -/
structure At (K : PySem.W.Frag) (mg : Str → Option Value) (x : Str) (st : Stmt) (ps : List Str) (f : Addr) (fd : FuncData) : Prop where
  fn : Fun K x x st f fd
  mg : mg x = some (.ref f)
  bi : Binds K fd ps []
theorem at_mk {K : PySem.W.Frag} {h : Heap} {mg : Str → Option Value} {x : Str} {st : Stmt} {ps : List Str} {f : Addr} {oc : Value} {od an : Option Addr} {osl : Array (Option Value)} {kV doc pm cdv ct : Value} (X : K.In h) (G : h.Ns mainGlobals mg) (a : PySem.W.nsIn K mainGlobals x = some (some (.ref f)))
    (l : K.lookup f = some ⟨oc, od, .func (PySem.W.fnOf x x (defArgs st) (defBody st) (defScope st) .none kV doc pm an cdv ct), osl⟩) (c : PySem.W.codeIn K cdv x = true) (k : PySem.W.keepIn K (.ref f) = true)
    (b : ∀ (kV doc pm : Value) (an : Option Addr) (cdv ct : Value) (us : List Value), us.length = ps.length → bindArgs (PySem.W.fnOf x x (defArgs st) (defBody st) (defScope st) .none kV doc pm an cdv ct) ⟨us, []⟩ = pure (ps.zip us)) :
    At K mg x st ps f (PySem.W.fnOf x x (defArgs st) (defBody st) (defScope st) .none kV doc pm an cdv ct) :=
  ⟨fun_mk l c k, PySem.W.mg_of X G a, (fun_mk l c k).binds b⟩
structure BiA (mg : Str → Option Value) : Prop where
  len : mg "len" = none
  all : mg "all" = none
  most : ∃ t, mg "MOST_COEFFICIENTS" = some (.int 4 t)
  largest : ∃ t, mg "LARGEST_COEFFICIENT" = some (.int 6 t)
  outside : ∃ t, mg "OUTSIDE_LIMITS" = some (.int (-22) t)
def spAB (K : PySem.W.Frag) : Sp := fun vs H Q _ => ∃ (lo hi : Int) (a : Addr) (ns : List Int), vs = [.int lo, .ref a, .int hi] ∧ Ints K H a ns ∧ ns.length ≤ 1000 ∧ ∀ H' : Hp, Same H H' → Q (.bl (within lo hi ns)) H'
/-- the limits of the coefficients -/
def spCA (K : PySem.W.Frag) : Sp := fun vs H Q _ => ∃ (a : Addr) (ns : List Int), vs = [.ref a] ∧ Ints K H a ns ∧ ns.length ≤ 1000 ∧ ∀ H' : Hp, Same H H' → Q (.bl (coefOk ns)) H'
section
variable {P : Program} {w : World} {K : PySem.W.Frag} {mg : Str → Option Value} {base : Heap}
theorem scAB : FnScope ["lowest", "numbers", "highest", "number"] ["lowest", "numbers", "highest"] (defScope sAB) := ⟨rfl, rfl, rfl, by decide +kernel, rfl, by decide +kernel, by decide +kernel⟩
theorem ok_ab {f : Addr} {fd : FuncData} (F : At K mg "all_between" sAB ["lowest", "numbers", "highest"] f fd) (T : BiA mg) : FnOk P w K mg base CX0 1 f fd ["lowest", "numbers", "highest"] (spAB K) := by
  refine F.fn.ok scAB (fun vs H Q E h => ?_) (fun cdv A outer s H vs Q E hr h => ?_)
  · obtain ⟨lo, hi, a, ns, rfl, _⟩ := h
    rfl
  · obtain ⟨lo, hi, a, ns, rfl, hS, hlen, k⟩ := h
    refine ⟨_, pss_one (ps_ret (pe_callB (cr_all rfl) (by rfl) T.all (by decide +kernel) (pa_cons (pe_lc (own := [("number", 3)]) (g := gName 3) (tt := tYes) rfl scAB.nd (pi_list (pv 1))
      (blkOk_by (own := [("number", 3)]) (N := ["lowest", "numbers", "highest", "number"]) (sc := defScope sAB) (by decide +kernel)) (fun _ _ _ _ _ => pg_name (i := 3) scAB.nd rfl (Or.inl rfl)) (fun _ _ _ _ _ => pts_nil)
      (fun _ _ _ _ _ => pe_chain op_le op_le (pv 0) (pv 3) (pv 2))) pa_nil))), ?_⟩
    refine ⟨_, rfl, a, rfl, ⟨_, hS⟩, fun D hD => ?_⟩
    refine lc_list (K := K) (a := a) (xs := ns.map V.int) (fun i H' => Same H H' ∧ H' D = some (.lst ((ns.take i).map fun n => V.bl (btw lo hi n)))) ?_ ?_ ?_ ?_
    · exact ⟨Same.new (Same.refl H) hD, upd_same⟩
    · rintro i H' _ ⟨s1, _⟩
      exact s1.seq hS
    · rintro i x H' hi' ⟨s1, hd⟩
      obtain ⟨z, hz, rfl⟩ := map_at hi'
      refine ⟨rfl, ?_⟩
      refine ⟨_, rfl, _, rfl, _, _, rfl, rfl, _, rfl, ?_⟩
      cases e : decide (lo ≤ z) with
      | false => exact iteF (lc_put (f := fun n => V.bl (btw lo hi n)) s1 hD hd hz (by show _ = V.bl (btw lo hi z); unfold btw; rw [e]; rfl) hlen)
      | true =>
        refine iteT ⟨_, rfl, _, _, rfl, rfl, ?_⟩
        exact lc_put (f := fun n => V.bl (btw lo hi n)) s1 hD hd hz (by show _ = V.bl (btw lo hi z); unfold btw; rw [e]; rfl) hlen
    · rintro H' ⟨s1, hd⟩
      refine ⟨D, ns.map (btw lo hi), rfl, SqL.of ?_, ?_⟩
      · rw [hd, List.length_map, List.take_length, List.map_map]
        rfl
      · have e : (List.map (btw lo hi) ns).all id = within lo hi ns := by
          unfold within
          rw [List.all_map]
          rfl
        rw [e]
        exact k H' s1
theorem scCA : FnScope ["coefficients"] ["coefficients"] (defScope sCA) := ⟨rfl, rfl, rfl, by decide +kernel, rfl, by decide +kernel, by decide +kernel⟩
theorem ok_ca {f fA : Addr} {fd fdA : FuncData} (F : At K mg "coefficients_allowed" sCA ["coefficients"] f fd) (T : BiA mg) (FA : At K mg "all_between" sAB ["lowest", "numbers", "highest"] fA fdA) :
    FnOk P w K mg base CX0 2 f fd ["coefficients"] (spCA K) := by
  have GA : FnOk P w K mg base CX0 1 fA fdA ["lowest", "numbers", "highest"] (spAB K) := ok_ab FA T
  obtain ⟨t4, m4⟩ := T.most
  obtain ⟨t6, m6⟩ := T.largest
  refine F.fn.ok scCA (fun vs H Q E h => ?_) (fun cdv A outer s H vs Q E hr h => ?_)
  · obtain ⟨a, ns, rfl, _⟩ := h
    rfl
  · obtain ⟨a, ns, rfl, hS, hlen, k⟩ := h
    refine ⟨_, pss_cons (ps_if (pt_not (pt_chain op_le op_le pe_int (pe_callB call_len_seq (by rfl) T.len PySem.boot_len (pa_cons (pv 0) pa_nil)) (pe_glob (v := .int 4) rfl m4 ⟨_, rfl⟩))) (pss_one (ps_ret pe_bl)) pss_nil)
      (pss_one (ps_ret (pe_call GA hr rfl FA.mg FA.fn.kp FA.bi .nil pass0 (pa_cons (pe_un un_neg (pe_glob (v := .int 6) rfl m6 ⟨_, rfl⟩)) (pa_cons (pv 0) (pa_cons (pe_glob (v := .int 6) rfl m6 ⟨_, rfl⟩) pa_nil)))))), ?_⟩
    refine ⟨_, rfl, a, _, rfl, .inl hS, _, _, rfl, rfl, _, rfl, ?_⟩
    rw [List.length_map]
    have fin : ∀ H' : Hp, Same H H' → Q (.bl (within (-6) 6 ns)) H' → Q (.bl (within (-6) 6 ns)) H' := fun _ _ q => q
    cases e1 : decide (1 ≤ (ns.length : Int)) with
    | false =>
      refine iteF ?_
      refine ⟨_, rfl, ?_⟩
      have q := k H (Same.refl H)
      unfold coefOk at q
      rw [e1] at q
      exact q
    | true =>
      refine iteT ⟨_, _, rfl, rfl, _, rfl, ?_⟩
      cases e2 : decide ((ns.length : Int) ≤ 4) with
      | false =>
        have q := k H (Same.refl H)
        unfold coefOk at q
        rw [e1, e2] at q
        exact q
      | true =>
        refine ⟨_, rfl, _, rfl, -6, 6, a, ns, rfl, hS, hlen, fun H' s1 => ?_⟩
        have q := k H' s1
        unfold coefOk at q
        rw [e1, e2] at q
        exact q
end
structure BiF (mg : Str → Option Value) : Prop where
  sum : mg "sum" = none
  zip : mg "zip" = none
def spFV (K : PySem.W.Frag) : Sp := fun vs H Q _ => ∃ (a b : Addr) (ns ms : List Int), vs = [.ref a, .ref b] ∧ Ints K H a ns ∧ Ints K H b ms ∧ ns.length ≤ 1000 ∧ (∀ n ∈ ns, -6 ≤ n ∧ n ≤ 6) ∧ ∀ H' : Hp, Same H H' → Q (.int (formI ns ms)) H'
section
variable {P : Program} {w : World} {K : PySem.W.Frag} {mg : Str → Option Value} {base : Heap}
theorem scFV : FnScope ["coefficients", "vector", "coefficient", "value"] ["coefficients", "vector"] (defScope sFV) := ⟨rfl, rfl, rfl, by decide +kernel, rfl, by decide +kernel, by decide +kernel⟩
theorem ok_fv {f : Addr} {fd : FuncData} (F : At K mg "form_value" sFV ["coefficients", "vector"] f fd) (T : BiF mg) :
    FnOk P w K mg base CX0 1 f fd ["coefficients", "vector"] (spFV K) := by
  refine F.fn.ok scFV (fun vs H Q E h => ?_) (fun cdv A outer s H vs Q E hr h => ?_)
  · obtain ⟨a, b, ns, ms, rfl, _⟩ := h
    rfl
  · obtain ⟨a, b, ns, ms, rfl, hS, hS2, hlen, hb, k⟩ := h
    refine ⟨_, pss_one (ps_ret (pe_callB (cr_sum rfl) (by rfl) T.sum (by decide +kernel) (pa_cons (pe_lc (own := [("coefficient", 2), ("value", 3)]) (g := gTup K 2 (gCons (gName 2) (gCons (gName 3) gNil))) (tt := tYes) rfl scFV.nd (pi_zip (by rfl) T.zip (pa_cons (pv 0) (pa_cons (pv 1) pa_nil)))
      (blkOk_by (own := [("coefficient", 2), ("value", 3)]) (N := ["coefficients", "vector", "coefficient", "value"]) (sc := defScope sFV) (by decide +kernel)) (fun _ _ _ _ _ => pg_tup rfl (pgs_cons (pg_name (i := 2) scFV.nd rfl (Or.inl rfl)) (pgs_cons (pg_name (i := 3) scFV.nd rfl (Or.inl rfl)) pgs_nil))) (fun _ _ _ _ _ => pts_nil)
      (fun _ _ _ _ _ => pe_op op_mul (pv 2) (pv 3))) pa_nil))), ?_⟩
    refine ⟨_, rfl, _, rfl, a, b, _, _, rfl, hS, hS2, fun D hD => lc_it (walk_zip (K := K) (a := a) (b := b) (xs := ns.map V.int) (ys := ms.map V.int) rfl) (fun i H' => Same H H' ∧ H' D = some (.lst (((ns.zip ms).take i).map fun p => V.int (p.1 * p.2)))) ?_ ?_ ?_ ?_⟩
    · exact ⟨Same.new (Same.refl H) hD, upd_same⟩
    · rintro i H' _ ⟨s1, _⟩
      exact ⟨s1.seq hS, s1.seq hS2⟩
    · rintro i x H1 H2 hi ⟨s1, hd⟩ ⟨Z, u, v, rfl, hZ, rfl, hu, hv⟩
      obtain ⟨z1, hz1, rfl⟩ := map_at hu
      obtain ⟨z2, hz2, rfl⟩ := map_at hv
      have hz : (ns.zip ms)[i]? = some (z1, z2) := List.getElem?_zip_eq_some.mpr ⟨hz1, hz2⟩
      have hb1 := hb z1 (List.mem_of_getElem? hz1)
      refine ⟨Z, _, rfl, SqT.of upd_same, rfl, _, _, rfl, _, _, rfl, rfl, rfl, _, rfl, _, rfl, _, _, rfl, rfl, .inl ⟨by omega, by omega⟩, ?_⟩
      refine lc_put (f := fun p : Int × Int => V.int (p.1 * p.2)) (Same.new s1 hZ) hD ?_ hz rfl ?_
      · rw [upd_ne (ne_of_none hd hZ)]
        exact hd
      · rw [List.length_zip]
        omega
    · rintro H' ⟨s1, hd⟩
      refine ⟨D, (ns.zip ms).map fun p => p.1 * p.2, rfl, SqL.of ?_, ?_⟩
      · rw [hd, List.length_map, List.length_map, List.take_of_length_le (by rw [List.length_zip]; exact Nat.le_refl _), List.map_map]
        rfl
      · exact k H' s1
end
structure BiM (mg : Str → Option Value) : Prop where
  max : mg "max" = none
  abs : mg "abs" = none
  any : mg "any" = none
  range : mg "range" = none
/-! ### any(xs) of a list of whole numbers -/
theorem truth_ints {prog : Program} {w : World} {A : Around} {ns : List Int} {its : List Value} (rv : Vals (ns.map V.int) its) :
    TruthOf prog w A (fun i v => its.toArray[i]? = some v) (fun i => ns.getD i 0 != 0) := fun i v s Q E hv hq => by
  have hv' : its[i]? = some v := by simpa using hv
  obtain ⟨hlt, _⟩ := List.getElem?_eq_some_iff.mp hv'
  have hlt2 : i < ns.length := by rw [← rv.length, List.length_map] at hlt; exact hlt
  obtain ⟨u, hu, r⟩ := rv.get (i := i) (x := V.int ns[i]) (by rw [List.getElem?_map, List.getElem?_eq_getElem hlt2]; rfl)
  rw [hv'] at hu
  cases hu
  obtain ⟨t, rfl⟩ := r
  have hq' : Q (ns.getD i 0 != 0) s := hq
  rw [List.getD_eq_getElem?_getD, List.getElem?_eq_getElem hlt2] at hq'
  exact truthy_int hq'
theorem any_rangeI : ∀ ns : List Int, (List.range ns.length).any (fun i => ns.getD i 0 != 0) = ns.any fun n => n != 0
  | [] => rfl
  | b :: bs => by
    rw [List.length_cons, List.range_succ_eq_map, List.any_cons, List.any_map, List.any_cons, ← any_rangeI bs]
    all_goals rfl
def rAnyI (K : PySem.W.Frag) : List V → Hp → VK → Prop := fun vs H Q => ∃ (a : Addr) (ns : List Int), vs = [V.ref a] ∧ SqL K H a (ns.map V.int) ∧ Q (.bl (ns.any fun n => n != 0)) H
theorem cr_anyI {X : Cx} (hc : X.calm = true) : CallR X (.builtin "any") (rAnyI X.K) := by
  intro pins s σ H vs us Q I r h
  obtain ⟨a, ns, rfl, hs, q⟩ := h
  obtain ⟨its, rv, hl, _⟩ := I.list hs
  rw [Vals.ref1 r]
  have hlen := rv.length
  rw [List.length_map] at hlen
  refine call_any_walk (iter_any hl.isList fun s₂ e2 st hne => ?_)
  subst e2
  refine ⟨_, _, _, _, _, _, _, rfl, Walks.list (A := X.A.in1) (I.ok.hd hc) _ a hne its.toArray, st, truth_ints rv, fun h' tk hk => ?_⟩
  refine ⟨.bl _, H, I.kept fun b o eo => hk b o (fun hmem => ?_) (Heap.get?_push_of_some _ eo), ?_, q⟩
  · rcases List.mem_cons.mp hmem with e1 | hmem
    · exact absurd (e1 ▸ Heap.lt_size eo) (Nat.lt_irrefl _)
    · cases hmem
  · show Value.bool _ = Value.bool _
    rw [← any_rangeI, List.size_toArray, hlen]
/-! ### contained -/
def contI (us vs : List Int) : Bool := (us.zip vs).all fun p => decide (p.1 ≤ p.2)
def spIC (K : PySem.W.Frag) : Sp := fun vs H Q _ => ∃ (a b : Addr) (ns ms : List Int), vs = [.ref a, .ref b] ∧ Ints K H a ns ∧ Ints K H b ms ∧ ns.length ≤ 1000 ∧ ∀ H' : Hp, Same H H' → Q (.bl (contI ns ms)) H'
section
variable {P : Program} {w : World} {K : PySem.W.Frag} {mg : Str → Option Value} {base : Heap}
theorem scIC : FnScope ["inner", "outer", "low", "high"] ["inner", "outer"] (defScope sIC) := ⟨rfl, rfl, rfl, by decide +kernel, rfl, by decide +kernel, by decide +kernel⟩
theorem ok_ic {f : Addr} {fd : FuncData} (F : At K mg "is_contained" sIC ["inner", "outer"] f fd) (T : BiA mg) (T3 : BiF mg) : FnOk P w K mg base CX0 1 f fd ["inner", "outer"] (spIC K) := by
  refine F.fn.ok scIC (fun vs H Q E h => ?_) (fun cdv A outer s H vs Q E hr h => ?_)
  · obtain ⟨a, b, ns, ms, rfl, _⟩ := h
    rfl
  · obtain ⟨a, b, ns, ms, rfl, hS, hS2, hlen, k⟩ := h
    refine ⟨_, pss_one (ps_ret (pe_callB (cr_all rfl) (by rfl) T.all (by decide +kernel) (pa_cons (pe_lc (own := [("low", 2), ("high", 3)]) (g := gTup K 2 (gCons (gName 2) (gCons (gName 3) gNil))) (tt := tYes) rfl scIC.nd (pi_zip (by rfl) T3.zip (pa_cons (pv 0) (pa_cons (pv 1) pa_nil)))
      (blkOk_by (own := [("low", 2), ("high", 3)]) (N := ["inner", "outer", "low", "high"]) (sc := defScope sIC) (by decide +kernel)) (fun _ _ _ _ _ => pg_tup rfl (pgs_cons (pg_name (i := 2) scIC.nd rfl (Or.inl rfl)) (pgs_cons (pg_name (i := 3) scIC.nd rfl (Or.inl rfl)) pgs_nil))) (fun _ _ _ _ _ => pts_nil)
      (fun _ _ _ _ _ => pe_cmpR op_le (pv 2) (pv 3) (nomark _))) pa_nil))), ?_⟩
    refine ⟨_, rfl, _, rfl, a, b, _, _, rfl, hS, hS2, fun D hD => lc_it (walk_zip (K := K) (a := a) (b := b) (xs := ns.map V.int) (ys := ms.map V.int) rfl) (fun i H' => Same H H' ∧ H' D = some (.lst (((ns.zip ms).take i).map fun p => V.bl (decide (p.1 ≤ p.2))))) ?_ ?_ ?_ ?_⟩
    · exact ⟨Same.new (Same.refl H) hD, upd_same⟩
    · rintro i H' _ ⟨s1, _⟩
      exact ⟨s1.seq hS, s1.seq hS2⟩
    · rintro i x H1 H2 hi ⟨s1, hd⟩ ⟨Z, u, v, rfl, hZ, rfl, hu, hv⟩
      obtain ⟨z1, hz1, rfl⟩ := map_at hu
      obtain ⟨z2, hz2, rfl⟩ := map_at hv
      have hz : (ns.zip ms)[i]? = some (z1, z2) := List.getElem?_zip_eq_some.mpr ⟨hz1, hz2⟩
      refine ⟨Z, _, rfl, SqT.of upd_same, rfl, _, _, rfl, _, _, rfl, rfl, rfl, _, rfl, _, rfl, _, _, rfl, rfl, ?_⟩
      refine lc_put (f := fun p : Int × Int => V.bl (decide (p.1 ≤ p.2))) (Same.new s1 hZ) hD ?_ hz rfl ?_
      · rw [upd_ne (ne_of_none hd hZ)]
        exact hd
      · rw [List.length_zip]
        omega
    · rintro H' ⟨s1, hd⟩
      refine ⟨D, (ns.zip ms).map fun p => decide (p.1 ≤ p.2), rfl, SqL.of ?_, ?_⟩
      · rw [hd, List.length_map, List.length_map, List.take_of_length_le (by rw [List.length_zip]; exact Nat.le_refl _), List.map_map]
        rfl
      · have e : (List.map (fun p : Int × Int => decide (p.1 ≤ p.2)) (ns.zip ms)).all id = contI ns ms := by
          unfold contI
          rw [List.all_map]
          rfl
        rw [e]
        exact k H' s1
end
/-! ### lists of vectors -/
def nI (v : List Nat) : List Int := v.map Int.ofNat
/-- at the addresses stand the vectors -/
def Rows (H : Hp) : List Addr → List (List Nat) → Prop
  | [], [] => True
  | a :: as, v :: vs => H a = some (.lst ((nI v).map V.int)) ∧ Rows H as vs
  | _, _ => False
theorem Rows.len {H : Hp} : ∀ {as : List Addr} {vs : List (List Nat)}, Rows H as vs → as.length = vs.length
  | [], [], _ => rfl
  | _ :: _, _ :: _, h => by rw [List.length_cons, List.length_cons, Rows.len h.2]
  | [], _ :: _, h => h.elim
  | _ :: _, [], h => h.elim
theorem Rows.at_ {H : Hp} : ∀ {as : List Addr} {vs : List (List Nat)} {i : Nat} {a : Addr}, Rows H as vs → as[i]? = some a → ∃ v, vs[i]? = some v ∧ H a = some (.lst ((nI v).map V.int))
  | [], [], _, _, _, h => by simp at h
  | b :: as, v :: vs, 0, a, h, g => by
    have e : b = a := Option.some.inj g
    subst e
    exact ⟨v, rfl, h.1⟩
  | b :: as, v :: vs, i + 1, a, h, g => Rows.at_ (as := as) (vs := vs) (i := i) h.2 g
  | [], _ :: _, _, _, h, _ => h.elim
  | _ :: _, [], _, _, h, _ => h.elim
theorem Rows.keep {H H' : Hp} : ∀ {as : List Addr} {vs : List (List Nat)}, (∀ a ∈ as, ∀ o, H a = some o → H' a = some o) → Rows H as vs → Rows H' as vs
  | [], [], _, _ => trivial
  | a :: as, v :: vs, s, h => ⟨s a (List.mem_cons_self ..) _ h.1, Rows.keep (fun b hb => s b (List.mem_cons_of_mem _ hb)) h.2⟩
  | [], _ :: _, _, h => h.elim
  | _ :: _, [], _, h => h.elim
theorem Rows.same {H H' : Hp} {as : List Addr} {vs : List (List Nat)} (s : Same H H') (h : Rows H as vs) : Rows H' as vs := h.keep fun a _ o e => s a o e
theorem Rows.snoc {H : Hp} {a : Addr} {v : List Nat} : ∀ {as : List Addr} {vs : List (List Nat)}, Rows H as vs → H a = some (.lst ((nI v).map V.int)) → Rows H (as ++ [a]) (vs ++ [v])
  | [], [], _, g => ⟨g, trivial⟩
  | _ :: _, _ :: _, h, g => ⟨h.1, Rows.snoc h.2 g⟩
  | [], _ :: _, h, _ => h.elim
  | _ :: _, [], h, _ => h.elim
theorem Rows.there {H : Hp} : ∀ {as : List Addr} {vs : List (List Nat)} {a : Addr}, Rows H as vs → a ∈ as → ∃ v, H a = some (.lst ((nI v).map V.int))
  | [], _, a, _, h => by simp at h
  | b :: as, v :: vs, a, h, g => by
    rcases List.mem_cons.mp g with e | m
    · rw [e]
      exact ⟨v, h.1⟩
    · exact Rows.there (as := as) (vs := vs) h.2 m
  | _ :: _, [], _, h, _ => h.elim
theorem any_take {α : Type} {p : α → Bool} {l : List α} {i : Nat} {x : α} (h : l[i]? = some x) : (l.take (i + 1)).any p = ((l.take i).any p || p x) := by
  rw [take_snoc h, List.any_append, List.any_cons, List.any_nil, Bool.or_false]
def spCO (K : PySem.W.Frag) : Sp := fun vs H Q _ => ∃ (a b : Addr) (v : List Nat) (as : List Addr) (us : List (List Nat)), vs = [.ref a, .ref b] ∧ Ints K H a (nI v) ∧ H b = some (.lst (as.map V.ref)) ∧ Rows H as us ∧ (∀ u ∈ us, u.length ≤ 1000) ∧
  ∀ H' : Hp, Same H H' → Q (.bl (us.any fun u => contI (nI u) (nI v))) H'
section
variable {P : Program} {w : World} {K : PySem.W.Frag} {mg : Str → Option Value} {base : Heap}
theorem scCO : FnScope ["vector", "others", "other"] ["vector", "others"] (defScope sCO) := ⟨rfl, rfl, rfl, by decide +kernel, rfl, by decide +kernel, by decide +kernel⟩
theorem ok_co {f fI : Addr} {fd fdI : FuncData} (F : At K mg "contains_one_of" sCO ["vector", "others"] f fd) (T : BiA mg) (T3 : BiF mg) (FI : At K mg "is_contained" sIC ["inner", "outer"] fI fdI) : FnOk P w K mg base CX0 2 f fd ["vector", "others"] (spCO K) := by
  have GI : FnOk P w K mg base CX0 1 fI fdI ["inner", "outer"] (spIC K) := ok_ic FI T T3
  refine F.fn.ok scCO (fun vs H Q E h => ?_) (fun cdv A outer s H vs Q E hr h => ?_)
  · obtain ⟨a, b, v, as, us, rfl, _⟩ := h
    rfl
  · obtain ⟨a, b, v, as, us, rfl, hS, hB, hR, hlen, k⟩ := h
    refine ⟨_, pss_cons (ps_for PassesOwn.never rfl (pi_list (pv 1)) (pg_name (i := 2) scCO.nd rfl (Or.inl rfl))
        (pss_one (ps_if (pt_val (pe_call GI hr rfl FI.mg FI.fn.kp FI.bi .nil pass0 (pa_cons (pv 2) (pa_cons (pv 0) pa_nil)))) (pss_one (ps_ret pe_bl)) pss_nil)))
      (pss_one (ps_ret pe_bl)), ?_⟩
    refine ⟨_, rfl, b, rfl, ⟨_, SqL.of hB⟩, for_list (K := K) (a := b) (xs := as.map V.ref) (fun i σ H' => ∃ x : Option V, σ = [some (.ref a), some (.ref b), x] ∧ Same H H' ∧ ((us.take i).any fun u => contI (nI u) (nI v)) = false)
      ⟨none, rfl, Same.refl H, rfl⟩ (fun i σ H' _ ⟨_, _, s1, _⟩ => SqL.of (s1 _ _ hB)) ?_ ?_⟩
    · rintro i x σ H' hi ⟨_, rfl, s1, e⟩
      obtain ⟨c, hc, rfl⟩ := map_at hi
      obtain ⟨u, hu, hcu⟩ := hR.at_ hc
      refine ⟨_, rfl, _, rfl, c, a, nI u, nI v, rfl, SqL.of (s1 _ _ hcu), s1.seq hS, by unfold nI; rw [List.length_map]; exact hlen u (List.mem_of_getElem? hu), fun H2 s2 => ⟨_, rfl, ?_⟩⟩
      cases e2 : contI (nI u) (nI v) with
      | true =>
        refine iteT ?_
        have q := k H2 (s1.trans s2)
        have t : (us.any fun u => contI (nI u) (nI v)) = true := List.any_eq_true.mpr ⟨u, List.mem_of_getElem? hu, e2⟩
        rw [t] at q
        exact q
      | false =>
        refine iteF ?_
        exact ⟨_, rfl, s1.trans s2, by rw [any_take hu, e, e2]; rfl⟩
    · rintro σ H' ⟨_, rfl, s1, e⟩
      have q := k H' s1
      rw [List.length_map, hR.len, List.take_length] at e
      rw [e] at q
      exact q
end
def spHV (K : PySem.W.Frag) : Sp := fun vs H Q _ => ∃ (a : Addr) (ns : List Int), vs = [.ref a] ∧ Ints K H a ns ∧ 0 < ns.length ∧ ns.length ≤ 1000 ∧
  ∀ (H' : Hp) (p : Addr) (M : Nat), Same H H' → (∀ n ∈ ns, -(M : Int) ≤ n ∧ n ≤ (M : Int)) → (∃ n ∈ ns, n = (M : Int) ∨ n = -(M : Int)) → H' p = some (.lst ((nI (LM.highest M ns)).map V.int)) → Q (.ref p) H'
section
variable {P : Program} {w : World} {K : PySem.W.Frag} {mg : Str → Option Value} {base : Heap}
theorem scHV : FnScope ["coefficients", "largest", "coefficient"] ["coefficients"] (defScope sHV) := ⟨rfl, rfl, rfl, by decide +kernel, rfl, by decide +kernel, by decide +kernel⟩
theorem ok_hv {f : Addr} {fd : FuncData} (F : At K mg "highest_values" sHV ["coefficients"] f fd) (T4 : BiM mg) : FnOk P w K mg base CX0 1 f fd ["coefficients"] (spHV K) := by
  refine F.fn.ok scHV (fun vs H Q E h => ?_) (fun cdv A outer s H vs Q E hr h => ?_)
  · obtain ⟨a, ns, rfl, _⟩ := h
    rfl
  · obtain ⟨a, ns, rfl, hS, hpos, hlen, k⟩ := h
    refine ⟨_, pss_cons (ps_set (i := 1) scHV.nd rfl (Or.inr rfl) (pe_callB (cr_max rfl) (by rfl) T4.max (by decide +kernel) (pa_cons (pe_lc (own := [("coefficient", 2)]) (g := gName 2) (tt := tYes) rfl scHV.nd (pi_list (pv 0))
        (blkOk_by (own := [("coefficient", 2)]) (N := ["coefficients", "largest", "coefficient"]) (sc := defScope sHV) (by decide +kernel)) (fun _ _ _ _ _ => pg_name (i := 2) scHV.nd rfl (Or.inl rfl)) (fun _ _ _ _ _ => pts_nil)
        (fun _ _ _ _ _ => pe_callB call_abs (by rfl) T4.abs (by decide +kernel) (pa_cons (pv 2) pa_nil))) pa_nil)))
      (pss_one (ps_ret (pe_lc (own := [("coefficient", 2)]) (g := gName 2) (tt := tYes) rfl scHV.nd (pi_list (pv 0))
        (blkOk_by (own := [("coefficient", 2)]) (N := ["coefficients", "largest", "coefficient"]) (sc := defScope sHV) (by decide +kernel)) (fun _ _ _ _ _ => pg_name (i := 2) scHV.nd rfl (Or.inl rfl)) (fun _ _ _ _ _ => pts_nil)
        (fun _ _ _ _ _ => pe_ifExp (pt_cmpR op_eq (pv 2) pe_int (nomark _)) pe_int (pv 1))))), ?_⟩
    refine ⟨_, rfl, a, rfl, ⟨_, hS⟩, fun D hD => lc_list (K := K) (a := a) (xs := ns.map V.int) (fun i H' => Same H H' ∧ H' D = some (.lst ((ns.take i).map fun n => V.int (if n < 0 then -n else n)))) ?_ ?_ ?_ ?_⟩
    · exact ⟨Same.new (Same.refl H) hD, upd_same⟩
    · rintro i H' _ ⟨s1, _⟩
      exact s1.seq hS
    · rintro i x H' hi' ⟨s1, hd⟩
      obtain ⟨z, hz, rfl⟩ := map_at hi'
      exact ⟨rfl, _, rfl, _, rfl, lc_put (f := fun n => V.int (if n < 0 then -n else n)) s1 hD hd hz rfl hlen⟩
    · rintro H1 ⟨s1, hd⟩
      rw [List.length_map, List.take_length] at hd
      refine ⟨D, ns.map fun n => if n < 0 then -n else n, rfl, SqL.of (by rw [hd, List.map_map]; rfl), by rw [List.length_map]; exact hpos, fun m hm hle => ?_⟩
      obtain ⟨M, hM, hb⟩ : ∃ M : Nat, m = (M : Int) ∧ ∃ n ∈ ns, n = (M : Int) ∨ n = -(M : Int) := by
        rw [List.mem_map] at hm
        obtain ⟨n, hn, e⟩ := hm
        refine ⟨m.toNat, ?_, n, hn, ?_⟩
        · split at e <;> omega
        · split at e <;> omega
      subst hM
      have hall : ∀ n ∈ ns, -(M : Int) ≤ n ∧ n ≤ (M : Int) := fun n hn => by
        have q := hle _ (List.mem_map.mpr ⟨n, hn, rfl⟩)
        split at q <;> omega
      refine ⟨_, rfl, a, rfl, ⟨_, s1.seq hS⟩, fun D2 hD2 => lc_list (K := K) (a := a) (xs := ns.map V.int) (fun i H' => Same H1 H' ∧ H' D2 = some (.lst ((ns.take i).map fun n => V.int (Int.ofNat (if n = 0 then 1 else M))))) ?_ ?_ ?_ ?_⟩
      · exact ⟨Same.new (Same.refl H1) hD2, upd_same⟩
      · rintro i H' _ ⟨s2, _⟩
        exact (s1.trans s2).seq hS
      · rintro i x H' hi' ⟨s2, hd2⟩
        obtain ⟨z, hz, rfl⟩ := map_at hi'
        refine ⟨rfl, _, rfl, rfl, _, rfl, ?_⟩
        show (if decide (V.int z = V.int 0) = true then _ else _)
        rw [vint_eq]
        by_cases e : z = 0
        · rw [if_pos (decide_eq_true e)]
          exact lc_put (f := fun n => V.int (Int.ofNat (if n = 0 then 1 else M))) s2 hD2 hd2 hz (by show _ = V.int (Int.ofNat (if z = 0 then 1 else M)); rw [if_pos e]; rfl) hlen
        · rw [if_neg (by rw [decide_eq_false e]; exact Bool.false_ne_true)]
          exact ⟨_, rfl, lc_put (f := fun n => V.int (Int.ofNat (if n = 0 then 1 else M))) s2 hD2 hd2 hz (by show _ = V.int (Int.ofNat (if z = 0 then 1 else M)); rw [if_neg e]; rfl) hlen⟩
      · rintro H2 ⟨s2, hd2⟩
        refine k H2 D2 M (s1.trans s2) hall hb ?_
        rw [hd2, List.length_map, List.take_length]
        unfold nI LM.highest
        rw [List.map_map, List.map_map]
        rfl
end
/-- a new row is put behind the rows of a list -/
theorem push_row {H1 H' : Hp} {l l1 p : Addr} {cs : List Addr} {rows : List (List Nat)} {w : List Nat} {o1 : HO} (s : Same H1 H') (nl : H1 l = none) (hl : H' l = some (.lst (cs.map V.ref))) (lc : l ∉ cs) (R : Rows H' cs rows) (h1 : H' l1 = none) (hp : upd H' l1 o1 p = none) :
    Same H1 (upd (upd (upd H' l1 o1) p (.lst ((nI w).map V.int))) l (.lst (cs.map V.ref ++ [V.ref p]))) ∧
    upd (upd (upd H' l1 o1) p (.lst ((nI w).map V.int))) l (.lst (cs.map V.ref ++ [V.ref p])) l = some (.lst ((cs ++ [p]).map V.ref)) ∧ l ∉ cs ++ [p] ∧
    Rows (upd (upd (upd H' l1 o1) p (.lst ((nI w).map V.int))) l (.lst (cs.map V.ref ++ [V.ref p]))) (cs ++ [p]) (rows ++ [w]) := by
  have e1 : ∀ b o, H' b = some o → upd H' l1 o1 b = some o := fun b o e => by rw [upd_ne (ne_of_none e h1)]; exact e
  have e2 : ∀ b o, H' b = some o → upd (upd H' l1 o1) p (.lst ((nI w).map V.int)) b = some o := fun b o e => by rw [upd_ne (ne_of_none (e1 b o e) hp)]; exact e1 b o e
  have pl : p ≠ l := fun q => by
    have t := e1 l _ hl
    rw [← q, hp] at t
    cases t
  refine ⟨Same.put (fun b o e => e2 b o (s b o e)) nl, by rw [upd_same, List.map_append]; rfl, ?_, ?_⟩
  · intro m
    rcases List.mem_append.mp m with m | m
    · exact lc m
    · exact pl (List.mem_singleton.mp m).symm
  · refine Rows.snoc (R.keep fun c hc o e => ?_) ?_
    · rw [upd_ne (fun q => lc (by rw [← q]; exact hc))]
      exact e2 c o e
    · rw [upd_ne pl, upd_same]
theorem flat_len {α β : Type} {f : α → List β} {c : Nat} (hf : ∀ x, (f x).length ≤ c) : ∀ l : List α, (l.flatMap f).length ≤ c * l.length
  | [] => Nat.zero_le _
  | x :: l => by
    rw [List.flatMap_cons, List.length_append, List.length_cons, Nat.mul_add]
    have := flat_len hf l
    have := hf x
    omega
theorem box_len : ∀ {hs : List Nat}, (∀ h ∈ hs, h ≤ 6) → (LM.box hs).length ≤ 7 ^ hs.length
  | [], _ => Nat.le_refl _
  | h :: hs, g => by
    have ih := box_len (hs := hs) fun k hk => g k (List.mem_cons_of_mem _ hk)
    have h6 := g h (List.mem_cons_self ..)
    have t : (LM.box (h :: hs)).length ≤ (LM.box hs).length * (List.range (h + 1)).length := flat_len (fun k => by rw [List.length_map]; exact Nat.le_refl _) _
    rw [List.length_range] at t
    rw [List.length_cons, Nat.pow_succ]
    exact Nat.le_trans t (Nat.mul_le_mul ih (by omega))
theorem box_snoc {hs : List Nat} {h : Nat} : LM.box (hs ++ [h]) = LM.grow (LM.box hs) h := by
  rw [← LM.grow_nil, List.foldl_append, LM.grow_nil]
  rfl
/-- the vectors longer by one -/
def ext (h : Nat) (v : List Nat) : List (List Nat) := (List.range (h + 1)).map fun k => v ++ [k]
theorem flat_take {α β : Type} {f : α → List β} {l : List α} {i : Nat} {x : α} (h : l[i]? = some x) : (l.take (i + 1)).flatMap f = (l.take i).flatMap f ++ f x := by
  rw [take_snoc h, List.flatMap_append, List.flatMap_cons, List.flatMap_nil, List.append_nil]
def spVU (K : PySem.W.Frag) : Sp := fun vs H Q _ => ∃ (a : Addr) (hs : List Nat), vs = [.ref a] ∧ Ints K H a (nI hs) ∧ hs.length ≤ 4 ∧ (∀ h ∈ hs, h ≤ 6) ∧
  ∀ (H' : Hp) (p : Addr) (as : List Addr), Same H H' → H p = none → H' p = some (.lst (as.map V.ref)) → Rows H' as (LM.box hs) → Q (.ref p) H'
section
variable {P : Program} {w : World} {K : PySem.W.Frag} {mg : Str → Option Value} {base : Heap}
theorem scVU : FnScope ["highest", "vectors", "limit", "longer", "vector", "value"] ["highest"] (defScope sVU) := ⟨rfl, rfl, rfl, by decide +kernel, rfl, by decide +kernel, by decide +kernel⟩
theorem ok_vu {f : Addr} {fd : FuncData} (F : At K mg "vectors_up_to" sVU ["highest"] f fd) (T4 : BiM mg) : FnOk P w K mg base CX0 1 f fd ["highest"] (spVU K) := by
  refine F.fn.ok scVU (fun vs H Q E h => ?_) (fun cdv A outer s H vs Q E hr h => ?_)
  · obtain ⟨a, hs, rfl, _⟩ := h
    rfl
  · obtain ⟨a, hs, rfl, hS, hlen, h6, k⟩ := h
    refine ⟨_, pss_cons (ps_set (i := 1) scVU.nd rfl (Or.inl rfl) (pe_lst (pa_cons (pe_lst pa_nil) pa_nil)))
      (pss_cons (ps_for PassesOwn.never rfl (pi_list (pv 0)) (pg_name (i := 2) scVU.nd rfl (Or.inl rfl))
        (pss_cons (ps_set (i := 3) scVU.nd rfl (Or.inl rfl) (pe_lst pa_nil))
        (pss_cons (ps_for PassesOwn.never rfl (pi_list (pv 1)) (pg_name (i := 4) scVU.nd rfl (Or.inl rfl))
          (pss_one (ps_for PassesOwn.never rfl (pi_range1 rfl T4.range (pa_cons (pe_op op_add (pv 2) pe_int) pa_nil)) (pg_name (i := 5) scVU.nd rfl (Or.inl rfl))
            (pss_one (ps_expr (pe_bm PySem.F.plainAttrs_list PySem.F.slot_list_append PySem.F.type_list_append mt_append (pv 3) (pa_cons (pe_op op_cat (pv 4) (pe_lst (pa_cons (pv 5) pa_nil))) pa_nil)))))))
        (pss_one (ps_set (i := 1) scVU.nd rfl (Or.inl rfl) (pv 3))))))
      (pss_one (ps_ret (pv 1)))), ?_⟩
    refine ⟨Nat.zero_le _, fun p0 h0 => ⟨(by show 1 ≤ sizeLine; decide), fun q0 hq0 => ?_⟩⟩
    have sA : Same H (upd (upd H p0 (.lst [])) q0 (.lst [.ref p0])) := Same.new (Same.new (Same.refl H) h0) hq0
    refine ⟨_, rfl, a, rfl, ⟨_, sA.seq hS⟩, for_list (K := K) (a := a) (xs := (nI hs).map V.int) (fun i σ H' => ∃ (q : Addr) (as : List Addr) (x2 x3 x4 x5 : Option V), σ = [some (.ref a), some (.ref q), x2, x3, x4, x5] ∧ Same H H' ∧ H q = none ∧ H' q = some (.lst (as.map V.ref)) ∧ Rows H' as (LM.box (hs.take i)))
      ?_ (fun i σ H' _ ⟨_, _, _, _, _, _, _, s1, _⟩ => s1.seq hS) ?_ ?_⟩
    · have nq : H q0 = none := (Same.new (Same.refl H) h0).free hq0
      refine ⟨q0, [p0], none, none, none, none, rfl, sA, nq, upd_same, ⟨?_, trivial⟩⟩
      rw [upd_ne (fun e => ?_), upd_same]
      · rfl
      · rw [← e, upd_same] at hq0
        cases hq0
    · rintro i x σ H1 hi ⟨q, as, x2, x3, x4, x5, rfl, s1, nq, hq, R⟩
      obtain ⟨z, hz, rfl⟩ := map_at hi
      obtain ⟨h, hh, rfl⟩ : ∃ h, hs[i]? = some h ∧ z = Int.ofNat h := by
        unfold nI at hz
        rw [List.getElem?_map] at hz
        cases e : hs[i]? with
        | none => rw [e] at hz; cases hz
        | some h => rw [e] at hz; exact ⟨h, rfl, (Option.some.inj hz).symm⟩
      have h6' := h6 h (List.mem_of_getElem? hh)
      have hi4 : i < 4 := by
        obtain ⟨t, _⟩ := List.getElem?_eq_some_iff.mp hh
        omega
      have hbl : (LM.box (hs.take i)).length ≤ 2401 := by
        refine Nat.le_trans (box_len fun k hk => h6 k (List.mem_of_mem_take hk)) ?_
        rw [List.length_take]
        exact Nat.le_trans (Nat.pow_le_pow_right (by decide) (show min i hs.length ≤ 4 by omega)) (by decide)
      have hvl : ∀ v ∈ LM.box (hs.take i), v.length ≤ 4 := fun v hv => by
        rw [LM.le_len (LM.mem_box.mp hv), List.length_take]
        omega
      have hnext : LM.box (hs.take (i + 1)) = (LM.box (hs.take i)).flatMap (ext h) := by
        rw [take_snoc hh, box_snoc]
        rfl
      generalize LM.box (hs.take i) = vs at R hbl hvl hnext
      refine ⟨Nat.zero_le _, fun l hl => ?_⟩
      have sL : Same H1 (upd H1 l (.lst [])) := Same.new (Same.refl H1) hl
      refine ⟨_, rfl, q, rfl, ⟨_, SqL.of (sL _ _ hq)⟩, for_list (K := K) (a := q) (xs := as.map V.ref) (fun j σ H' => ∃ (bs : List Addr) (x4 x5 : Option V), σ = [some (.ref a), some (.ref q), some (.int (Int.ofNat h)), some (.ref l), x4, x5] ∧ Same H1 H' ∧ H' l = some (.lst (bs.map V.ref)) ∧ l ∉ bs ∧ Rows H' bs ((vs.take j).flatMap (ext h)))
        ?_ (fun j σ H' _ ⟨_, _, _, _, s2, _⟩ => SqL.of (s2 _ _ hq)) ?_ ?_⟩
      · exact ⟨[], x4, x5, rfl, sL, upd_same, by simp, trivial⟩
      · rintro j y σ H2 hj ⟨bs, y4, y5, rfl, s2, hl2, lb, R2⟩
        obtain ⟨c, hc, rfl⟩ := map_at hj
        obtain ⟨v, hv, hcv⟩ := R.at_ hc
        have hvl' := hvl v (List.mem_of_getElem? hv)
        have hn : (Int.ofNat h + 1).toNat = h + 1 := by
          show ((h : Int) + 1).toNat = h + 1
          omega
        have hrow : ∀ k, ((vs.take j).flatMap (ext h) ++ (List.range k).map fun k => v ++ [k]).length ≤ 16807 + k := fun k => by
          rw [List.length_append, List.length_map, List.length_range]
          have t : ((vs.take j).flatMap (ext h)).length ≤ 7 * (vs.take j).length := flat_len (fun x => by unfold ext; rw [List.length_map, List.length_range]; omega) _
          rw [List.length_take] at t
          omega
        refine ⟨_, rfl, _, _, rfl, rfl, _, rfl, (by show -(2 ^ 62) ≤ (h : Int) + 1; omega), (by show (h : Int) + 1 < 2 ^ 62; omega),
          for_range (lo := 0) (n := (Int.ofNat h + 1).toNat) (fun m σ H' => ∃ (cs : List Addr) (z5 : Option V), σ = [some (.ref a), some (.ref q), some (.int (Int.ofNat h)), some (.ref l), some (.ref c), z5] ∧ Same H1 H' ∧ H' l = some (.lst (cs.map V.ref)) ∧ l ∉ cs ∧ Rows H' cs ((vs.take j).flatMap (ext h) ++ (List.range m).map fun k => v ++ [k])) ?_ ?_ ?_⟩
        · exact ⟨bs, y5, rfl, s2, hl2, lb, by rw [List.range_zero, List.map_nil, List.append_nil]; exact R2⟩
        · rintro m σ H3 hm ⟨cs, z5, rfl, s3, hl3, lc, R3⟩
          rw [hn] at hm
          have hcs := R3.len
          have hcs2 := hrow m
          refine ⟨_, rfl, .inl ⟨rfl, _, SqL.of hl3⟩, _, rfl, _, rfl, (by show 1 ≤ sizeLine; decide), fun l1 hl1 => ?_⟩
          have hc3 : H3 c = some (.lst ((nI v).map V.int)) := s3 _ _ hcv
          have nc : c ≠ l1 := ne_of_none hc3 hl1
          refine ⟨c, l1, (nI v).map V.int, [V.int (0 + (m : Int))], rfl, rfl, (by rw [upd_ne nc]; exact hc3), upd_same, ?_, fun p hp => ?_⟩
          · unfold nI
            rw [List.length_map, List.length_map]
            exact Nat.le_of_lt (small1000 (by show v.length + 1 ≤ 1000; omega))
          · have ew : (nI v).map V.int ++ [V.int (0 + (m : Int))] = (nI (v ++ [m])).map V.int := by
              unfold nI
              rw [List.map_append, List.map_append, Int.zero_add]
              rfl
            rw [ew]
            obtain ⟨t1, t2, t3, t4⟩ := push_row (w := v ++ [m]) (o1 := .lst [V.int (0 + (m : Int))]) s3 hl hl3 lc R3 hl1 hp
            have nl1 : l ≠ l1 := ne_of_none hl3 hl1
            have nlp : l ≠ p := fun e => by
              rw [← e, upd_ne nl1, hl3] at hp
              cases hp
            refine ⟨l, _, _, rfl, rfl, (by rw [upd_ne nlp, upd_ne nl1]; exact hl3), ?_, ?_⟩
            · rw [List.length_map, hcs]
              exact Nat.lt_of_le_of_lt hcs2 (by show 16807 + m < 2 ^ 24; omega)
            · refine ⟨cs ++ [p], _, rfl, t1, t2, t3, ?_⟩
              rw [List.range_succ, List.map_append, ← List.append_assoc]
              exact t4
        · rintro σ H3 ⟨cs, z5, rfl, s3, hl3, lc, R3⟩
          rw [hn] at R3
          refine ⟨cs, _, _, rfl, s3, hl3, lc, ?_⟩
          rw [flat_take hv]
          exact R3
      · rintro σ H2 ⟨bs, y4, y5, rfl, s2, hl2, lb, R2⟩
        refine ⟨_, rfl, ?_⟩
        rw [List.length_map, R.len, List.take_length, ← hnext] at R2
        exact ⟨l, bs, _, _, _, _, rfl, s1.trans s2, s1.free hl, hl2, R2⟩
    · rintro σ H' ⟨q, as, x2, x3, x4, x5, rfl, s1, nq, hq, R⟩
      refine ⟨_, rfl, k H' q as s1 nq hq ?_⟩
      have hll : (List.map V.int (nI hs)).length = hs.length := by
        unfold nI
        rw [List.length_map, List.length_map]
      rw [hll, List.take_length] at R
      exact R
end
/-- all but l is as it was -/
def But (l : Addr) (H H' : Hp) : Prop := ∀ b o, b ≠ l → H b = some o → H' b = some o
theorem But.refl (l : Addr) (H : Hp) : But l H H := fun _ _ _ e => e
theorem But.same {l : Addr} {H H1 H2 : Hp} (x : But l H H1) (s : Same H1 H2) : But l H H2 := fun b o n e => s b o (x b o n e)
theorem But.put {l : Addr} {H H1 : Hp} {o : HO} (x : But l H H1) : But l H (upd H1 l o) := fun b u n e => by rw [upd_ne n]; exact x b u n e
theorem But.out {l : Addr} {H0 H H1 : Hp} (s : Same H0 H) (x : But l H H1) (n : H0 l = none) : Same H0 H1 := fun b o e => x b o (ne_of_none e n) (s b o e)
theorem any_nI (v : List Nat) : ((nI v).any fun n => n != 0) = v.any fun k => k != 0 := by
  unfold nI
  rw [List.any_map]
  congr 1
  funext k
  show ((k : Int) != 0) = (k != 0)
  rw [Bool.eq_iff_iff, bne_iff_ne, bne_iff_ne]
  omega
theorem cont_nI : ∀ u v : List Nat, contI (nI u) (nI v) = Ks605.isContained u v
  | [], _ => rfl
  | _ :: _, [] => rfl
  | a :: u, b :: v => by
    show (decide (Int.ofNat a ≤ Int.ofNat b) && contI (nI u) (nI v)) = (decide (a ≤ b) && Ks605.isContained u v)
    rw [cont_nI u v]
    congr 1
    exact decide_eq_decide.mpr Int.ofNat_le
theorem form_nI : ∀ (a : List Int) (v : List Nat), formI a (nI v) = LM.form a v
  | [], _ => rfl
  | _ :: _, [] => rfl
  | c :: a, b :: v => by
    show (c * (b : Int) :: ((a.zip (nI v)).map fun p => p.1 * p.2)).sum = c * (b : Int) + LM.form a v
    rw [List.sum_cons, ← form_nI a v]
    rfl
theorem step_sub (a : List Int) : ∀ (l acc : List (List Nat)), (∀ u ∈ l.foldl (LM.step a) acc, u ∈ acc ∨ u ∈ l) ∧ (l.foldl (LM.step a) acc).length ≤ acc.length + l.length
  | [], acc => ⟨fun u hu => .inl hu, Nat.le_refl _⟩
  | v :: l, acc => by
    obtain ⟨h1, h2⟩ := step_sub a l (LM.step a acc v)
    have hs : LM.step a acc v = acc ∨ LM.step a acc v = acc ++ [v] := by
      unfold LM.step
      split
      · exact .inl rfl
      · split
        · exact .inl rfl
        · exact .inr rfl
    rw [List.foldl_cons]
    refine ⟨fun u hu => ?_, ?_⟩
    · rcases h1 u hu with m | m
      · rcases hs with e | e
        · rw [e] at m
          exact .inl m
        · rw [e] at m
          rcases List.mem_append.mp m with m | m
          · exact .inl m
          · exact .inr (by rw [List.mem_singleton.mp m]; exact List.mem_cons_self ..)
      · exact .inr (List.mem_cons_of_mem _ m)
    · refine Nat.le_trans h2 ?_
      rw [List.length_cons]
      rcases hs with e | e
      · rw [e]
        omega
      · rw [e, List.length_append, List.length_cons, List.length_nil]
        omega
def spMV (K : PySem.W.Frag) : Sp := fun vs H Q _ => ∃ (a : Addr) (ns : List Int), vs = [.ref a] ∧ Ints K H a ns ∧ coefOk ns = true ∧
  ∀ (H' : Hp) (p : Addr) (as : List Addr), Same H H' → H p = none → H' p = some (.lst (as.map V.ref)) → Rows H' as (Ks605.minimalSolutions ns) → Q (.ref p) H'
section
variable {P : Program} {w : World} {K : PySem.W.Frag} {mg : Str → Option Value} {base : Heap}
theorem scMV : FnScope ["coefficients", "found", "vector"] ["coefficients"] (defScope sMV) := ⟨rfl, rfl, rfl, by decide +kernel, rfl, by decide +kernel, by decide +kernel⟩
theorem ok_mv {f fH fV fF fC fI : Addr} {fd fdH fdV fdF fdC fdI : FuncData} (F : At K mg "minimal_vectors" sMV ["coefficients"] f fd) (T : BiA mg) (T3 : BiF mg) (T4 : BiM mg)
    (FH : At K mg "highest_values" sHV ["coefficients"] fH fdH) (FV : At K mg "vectors_up_to" sVU ["highest"] fV fdV) (FF : At K mg "form_value" sFV ["coefficients", "vector"] fF fdF)
    (FC : At K mg "contains_one_of" sCO ["vector", "others"] fC fdC) (FI : At K mg "is_contained" sIC ["inner", "outer"] fI fdI) : FnOk P w K mg base CX0 3 f fd ["coefficients"] (spMV K) := by
  have GH : FnOk P w K mg base CX0 1 fH fdH ["coefficients"] (spHV K) := ok_hv FH T4
  have GV : FnOk P w K mg base CX0 1 fV fdV ["highest"] (spVU K) := ok_vu FV T4
  have GF : FnOk P w K mg base CX0 1 fF fdF ["coefficients", "vector"] (spFV K) := ok_fv FF T3
  have GC : FnOk P w K mg base CX0 2 fC fdC ["vector", "others"] (spCO K) := ok_co FC T T3 FI
  refine F.fn.ok scMV (fun vs H Q E h => ?_) (fun cdv A outer s H vs Q E hr h => ?_)
  · obtain ⟨a, ns, rfl, _⟩ := h
    rfl
  · obtain ⟨a, ns, rfl, hS, hok, k⟩ := h
    have hl := LM.coef_len hok
    have hb : ∀ n ∈ ns, -6 ≤ n ∧ n ≤ 6 := fun n hn => coef_mem hok hn
    have hr1 : Room 1 _ := hr.mono (by decide)
    refine ⟨_, pss_cons (ps_set (i := 1) scMV.nd rfl (Or.inl rfl) (pe_lst pa_nil))
      (pss_cons (ps_for PassesOwn.never rfl (pi_list (pe_call GV hr1 rfl FV.mg FV.fn.kp FV.bi .nil pass0 (pa_cons (pe_call GH hr1 rfl FH.mg FH.fn.kp FH.bi .nil pass0 (pa_cons (pv 0) pa_nil)) pa_nil))) (pg_name (i := 2) scMV.nd rfl (Or.inl rfl))
        (pss_cons (ps_if (PW.pt (pw_or (pt_not (pt_val (pe_callB (cr_anyI rfl) (by rfl) T4.any (by decide +kernel) (pa_cons (pv 2) pa_nil)))) (pw_or1 (pt_cmpR op_ne (pe_call GF hr1 rfl FF.mg FF.fn.kp FF.bi .nil pass0 (pa_cons (pv 0) (pa_cons (pv 2) pa_nil))) pe_int (nomark _))))) (pss_one ps_continue) pss_nil)
        (pss_one (ps_if (pt_not (pt_val (pe_call GC hr rfl FC.mg FC.fn.kp FC.bi .nil pass0 (pa_cons (pv 2) (pa_cons (pv 1) pa_nil)))))
          (pss_one (ps_expr (pe_bm PySem.F.plainAttrs_list PySem.F.slot_list_append PySem.F.type_list_append mt_append (pv 1) (pa_cons (pv 2) pa_nil)))) pss_nil))))
      (pss_one (ps_ret (pv 1)))), ?_⟩
    refine ⟨Nat.zero_le _, fun l hl0 => ?_⟩
    have s0 : Same H (upd H l (.lst [])) := Same.new (Same.refl H) hl0
    refine ⟨_, rfl, a, ns, rfl, s0.seq hS, by omega, by omega, fun H1 d M s1 hM hM1 hd => ?_⟩
    have hM6 : M ≤ 6 := by
      obtain ⟨n, hn, e⟩ := hM1
      have := hb n hn
      omega
    have hhl : (LM.highest M ns).length = ns.length := by
      unfold LM.highest
      rw [List.length_map]
    refine ⟨d, LM.highest M ns, rfl, SqL.of hd, by rw [hhl]; exact hl.2, fun h hh => ?_, fun H2 q as s2 nq hq R => ?_⟩
    · unfold LM.highest at hh
      rw [List.mem_map] at hh
      obtain ⟨c, _, e⟩ := hh
      split at e <;> omega
    have s02 : Same H H2 := (s0.trans s1).trans s2
    have hl2 : H2 l = some (.lst []) := s2 _ _ (s1 _ _ upd_same)
    have nql : q ≠ l := fun e => by
      have t := s1 l _ upd_same
      rw [← e, nq] at t
      cases t
    have hvl : ∀ v ∈ LM.box (LM.highest M ns), v.length = ns.length := fun v hv => by rw [LM.le_len (LM.mem_box.mp hv), hhl]
    have hstep : ((LM.box (LM.highest M ns)).foldl (LM.step ns) []) = Ks605.minimalSolutions ns := LM.minimal_loop hM hM6
    refine ⟨q, rfl, ⟨_, SqL.of hq⟩, for_list (K := K) (a := q) (xs := as.map V.ref) (fun i σ H' => ∃ (cs : List Addr) (x2 : Option V), σ = [some (.ref a), some (.ref l), x2] ∧ But l H2 H' ∧ H' l = some (.lst (cs.map V.ref)) ∧ l ∉ cs ∧ Rows H' cs (((LM.box (LM.highest M ns)).take i).foldl (LM.step ns) []))
      ?_ (fun i σ H' _ ⟨_, _, _, s3, _⟩ => SqL.of (s3 _ _ nql hq)) ?_ ?_⟩
    · exact ⟨[], none, rfl, But.refl l H2, hl2, by simp, trivial⟩
    · rintro i y σ H3 hi ⟨cs, x2, rfl, s3, hl3, lc, R3⟩
      obtain ⟨c, hc, rfl⟩ := map_at hi
      obtain ⟨v, hv, hcv⟩ := R.at_ hc
      have hlen := hvl v (List.mem_of_getElem? hv)
      have ncl : c ≠ l := fun e => by
        rw [e, hl2] at hcv
        injection hcv with t
        injection t with t
        have t2 := congrArg List.length t
        unfold nI at t2
        rw [List.length_map, List.length_map] at t2
        have : v.length = 0 := t2.symm
        omega
      have c3 := s3 _ _ ncl hcv
      have s13 : Same H H3 := But.out s02 s3 hl0
      have hfold : ((LM.box (LM.highest M ns)).take (i + 1)).foldl (LM.step ns) [] = LM.step ns (((LM.box (LM.highest M ns)).take i).foldl (LM.step ns) []) v := by
        rw [take_snoc hv, List.foldl_append]
        rfl
      rw [hfold]
      have hfl : (∀ u ∈ ((LM.box (LM.highest M ns)).take i).foldl (LM.step ns) [], u.length ≤ 1000) ∧ (((LM.box (LM.highest M ns)).take i).foldl (LM.step ns) []).length ≤ 2401 := by
        obtain ⟨t1, t2⟩ := step_sub ns ((LM.box (LM.highest M ns)).take i) []
        refine ⟨fun u hu => ?_, Nat.le_trans t2 ?_⟩
        · rcases t1 u hu with m | m
          · simp at m
          · rw [hvl u (List.mem_of_mem_take m)]
            omega
        · rw [List.length_nil, Nat.zero_add, List.length_take]
          refine Nat.le_trans (Nat.min_le_right _ _) (Nat.le_trans (box_len fun k hk => ?_) ?_)
          · unfold LM.highest at hk
            rw [List.mem_map] at hk
            obtain ⟨c, _, e⟩ := hk
            split at e <;> omega
          · rw [hhl]
            exact Nat.le_trans (Nat.pow_le_pow_right (by decide) hl.2) (by decide)
      generalize ((LM.box (LM.highest M ns)).take i).foldl (LM.step ns) [] = fs at R3 hfl
      refine ⟨_, rfl, c, nI v, rfl, SqL.of c3, _, rfl, ?_⟩
      rw [any_nI]
      cases e1 : (v.any fun k => k != 0) with
      | false =>
        have es : LM.step ns fs v = fs := if_pos (.inl (by rw [e1]; rfl))
        exact iteT (iteT ⟨cs, _, rfl, s3, hl3, lc, by rw [es]; exact R3⟩)
      | true =>
        refine iteF ⟨_, rfl, _, rfl, a, c, ns, nI v, rfl, s13.seq hS, SqL.of c3, by omega, hb, fun H4 s4 => ?_⟩
        rw [form_nI]
        refine ⟨rfl, _, rfl, ?_⟩
        cases e2 : decide (V.int (LM.form ns v) = V.int 0) with
        | false =>
          rw [vint_eq] at e2
          have es : LM.step ns fs v = fs := if_pos (.inr (of_decide_eq_false e2))
          exact iteT ⟨cs, _, rfl, s3.same s4, s4 _ _ hl3, lc, by rw [es]; exact R3.same s4⟩
        | true =>
          rw [vint_eq] at e2
          have e0 : LM.form ns v = 0 := of_decide_eq_true e2
          have c4 := s4 _ _ c3
          have hl4 := s4 _ _ hl3
          have hor : ¬ ((!(v.any fun k => k != 0)) = true ∨ LM.form ns v ≠ 0) := fun t => by
            rcases t with t | t
            · rw [e1] at t
              cases t
            · exact t e0
          refine iteF ⟨_, rfl, _, rfl, c, l, v, cs, fs, rfl, SqL.of c4, hl4, R3.same s4, fun u hu => hfl.1 u hu, fun H5 s5 => ⟨_, rfl, ?_⟩⟩
          have ec : (fs.any fun u => contI (nI u) (nI v)) = fs.any fun u => Ks605.isContained u v := by
            congr 1
            funext u
            exact cont_nI u v
          rw [ec]
          cases e3 : (fs.any fun u => Ks605.isContained u v) with
          | true =>
            have es : LM.step ns fs v = fs := (if_neg hor).trans (if_pos e3)
            exact iteF ⟨cs, _, rfl, (s3.same s4).same s5, s5 _ _ hl4, lc, by rw [es]; exact (R3.same s4).same s5⟩
          | false =>
            have es : LM.step ns fs v = fs ++ [v] := (if_neg hor).trans (if_neg (by rw [e3]; exact Bool.false_ne_true))
            have hl5 := s5 _ _ hl4
            refine iteT ⟨_, rfl, .inl ⟨rfl, _, SqL.of hl5⟩, _, rfl, l, _, _, rfl, rfl, hl5, ?_, cs ++ [c], _, rfl, ((s3.same s4).same s5).put, by rw [upd_same, List.map_append]; rfl, ?_, ?_⟩
            · rw [List.length_map, R3.len]
              exact Nat.lt_of_le_of_lt hfl.2 (by decide)
            · intro m
              rcases List.mem_append.mp m with m | m
              · exact lc m
              · exact ncl (List.mem_singleton.mp m).symm
            · rw [es]
              refine Rows.snoc (((R3.same s4).same s5).keep fun b hb2 o e => by rw [upd_ne (fun q => lc (by rw [← q]; exact hb2))]; exact e) ?_
              rw [upd_ne ncl]
              exact s5 _ _ c4
    · rintro σ H3 ⟨cs, x2, rfl, s3, hl3, lc, R3⟩
      rw [List.length_map, R.len, List.take_length, hstep] at R3
      exact ⟨_, rfl, k H3 l cs (But.out s02 s3 hl0) hl0 hl3 R3⟩
end
theorem But.trans {l : Addr} {H H1 H2 : Hp} (x : But l H H1) (y : But l H1 H2) : But l H H2 := fun b o n e => y b o n (x b o n e)
theorem But.of {l : Addr} {H H1 : Hp} (s : Same H H1) : But l H H1 := fun b o _ e => s b o e
theorem vec_nat {ns ms : List Int} (h : vecOk ns ms = true) : nI (ms.map Int.toNat) = ms := by
  unfold nI
  rw [List.map_map]
  have e : ∀ m ∈ ms, (Int.ofNat ∘ Int.toNat) m = m := fun m hm => Int.toNat_of_nonneg (LM.vec_mem h hm).1
  rw [List.map_congr_left e, List.map_id']
theorem min_facts {ns : List Int} (h : coefOk ns = true) : (Ks605.minimalSolutions ns).length ≤ 2401 ∧ ∀ v ∈ Ks605.minimalSolutions ns, v.length = ns.length ∧ 0 < v.sum ∧ ∀ u ∈ v, u ≤ 6 := by
  constructor
  · rw [LM.minimal_filter, LM.bounded_box]
    refine Nat.le_trans (List.length_filter_le _ _) (Nat.le_trans (box_len fun k hk => Nat.le_of_eq (List.eq_of_mem_replicate hk)) ?_)
    rw [List.length_replicate]
    exact Nat.le_trans (Nat.pow_le_pow_right (by decide) (LM.coef_len h).2) (by decide)
  · intro v hv
    have m := LM.min_mem hv
    refine ⟨by rw [LM.le_len m.1, List.length_replicate], m.2.pos, ?_⟩
    have go : ∀ (n : Nat) (v : List Nat), LM.le v (List.replicate n 6) → ∀ u ∈ v, u ≤ 6 := by
      intro n
      induction n with
      | zero => intro v h u hu; cases v with
        | nil => simp at hu
        | cons _ _ => exact h.elim
      | succ n ih => intro v h u hu; cases v with
        | nil => simp at hu
        | cons t v =>
          rcases List.mem_cons.mp hu with q | q
          · rw [q]
            exact h.1
          · exact ih v h.2 u q
    exact go _ v m.1
structure BiN (mg : Str → Option Value) : Prop where
  no : ∃ t, mg "NO_SOLUTION" = some (.int (-33) t)
theorem nI_len (v : List Nat) : (nI v).length = v.length := by
  unfold nI
  rw [List.length_map]
theorem nV_len (v : List Nat) : ((nI v).map V.int).length = v.length := by
  rw [List.length_map, nI_len]
structure BiG (mg : Str → Option Value) : Prop where
  min : mg "min" = none
/-! ### min(xs, key=sum): xs a list of lists of whole numbers -/
/-- what is tracked stands in the ledger of all objects -/
theorem trk_mem {X : Cx} {pins : List (Addr × Obj)} {σ : L2.St} {H : Hp} {s : Shared} {b : Addr} {o : HO} {ob : Obj} (I : Inv X pins σ H s) (hb : H b = some o) (g : s.heap.get? b = some ob) : (b, ob) ∈ allNews X.base s.heap X.env.locals := by
  refine mem_allNews (fun e => ?_) ?_ g
  · rw [e, I.free] at hb
    cases hb
  · cases q : X.base.get? b with
    | none => rfl
    | some u =>
      rw [(I.bs b u q).2] at hb
      cases hb
theorem refs_vals : ∀ {as : List Addr} {its : List Value}, Vals (as.map V.ref) its → its = as.map Value.ref
  | [], _, h => by
    cases h
    rfl
  | a :: as, _, h => by
    cases h with
    | cons r t =>
      cases r
      rw [refs_vals t]
      rfl
/-- the first of the least -/
def Fst (kf : Nat → Int) (n i : Nat) : Prop := ∀ j, j < n → kf i ≤ kf j ∧ (j < i → kf i < kf j)
theorem Fst.only {kf : Nat → Int} {n i j : Nat} (hi : i < n) (hj : j < n) (x : Fst kf n i) (y : Fst kf n j) : i = j := by
  have t1 := x j hj
  have t2 := y i hi
  rcases Nat.lt_trichotomy i j with c | c | c
  · have := t2.2 c
    have := t1.1
    omega
  · exact c
  · have := t1.2 c
    have := t2.1
    omega
theorem min_sum_run {X : Cx} (hc : X.calm = true) {pins : List (Addr × Obj)} {σ : L2.St} {H : Hp} {s : Shared} {a : Addr} {as : List Addr} {kf : Nat → Int} {Q : VK} (I : Inv X pins σ H s) (ha : H a = some (.lst (as.map V.ref))) (hne : 0 < as.length)
    (hk : ∀ i b, as[i]? = some b → ∃ ns : List Int, H b = some (.lst (ns.map V.int)) ∧ ns.sum = kf i) (q : ∀ i b, as[i]? = some b → Fst kf as.length i → Q (.ref b) H) :
    wpAny (model X.prog X.w) X.A (call (.builtin "min") [.ref a] [(Str.ofString "key", .builtin "sum")]) (EP X pins σ Q) X.xe s := by
  obtain ⟨m, F⟩ := I.fr
  obtain ⟨_, its, n, rv, hob⟩ := I.hok a _ ha
  have hits := refs_vals rv
  subst hits
  refine kmb_min (vs := as.map Value.ref) kf (I.ok.hd hc) F news_all (fun h F' N' => ?_) (by rw [List.length_map]; exact hne) (fun i v hv h tk own F' N' => ?_) (fun i v h' tk' hv hb F' N' => ?_)
  · exact ⟨_, (N' _ (trk_mem I ha hob)).1, rfl, n, rfl⟩
  · rw [List.getElem?_map] at hv
    cases e : as[i]? with
    | none => rw [e] at hv; cases hv
    | some b =>
      rw [e] at hv
      cases hv
      obtain ⟨ns, hbl, es⟩ := hk i b e
      obtain ⟨_, jts, n2, rv2, hob2⟩ := I.hok b _ hbl
      refine sum_raw (I.ok.hd hc) ⟨_, (N' _ (List.mem_append_left _ (trk_mem I hbl hob2))).1, rfl, n2, rfl⟩ rv2.ints fun h2 tk2 t2 kk => ?_
      rw [es]
      exact ⟨h2, tk2, t2, rfl, rfl, ⟨F'.ns.keeps kk, fun c o g => kk c o (F'.keep c o g), F'.above⟩, fun p hp => ⟨kk _ _ (N' p hp).1, (N' p hp).2⟩⟩
  · rw [List.getElem?_map] at hv
    cases e : as[i]? with
    | none => rw [e] at hv; cases hv
    | some b =>
      rw [e] at hv
      cases hv
      rw [List.length_map] at hb
      have kept : ∀ c o, c ≠ X.env.locals → s.heap.get? c = some o → h'.get? c = some o := fun c o nc g => by
        cases r : X.base.get? c with
        | none => exact (N' _ (mem_allNews nc r g)).1
        | some u =>
          have t := I.bk c u r
          rw [g] at t
          cases t
          exact F'.keep c _ r
      have nL : ∀ c o, H c = some o → c ≠ X.env.locals := fun c o g z => by
        rw [z, I.free] at g
        cases g
      refine ⟨.ref b, H, ?_, rfl, q i b e hb⟩
      refine I.step (g' := s.gens) (d' := s.drawn) (ch := []) (fun _ z => nomatch z) (fun c o nc _ _ g _ => kept c o nc g) (fun c o nc _ _ g _ => ⟨o.slots, kept c o nc g⟩) (fun _ _ _ _ z => z) (fun c o _ g => ?_)
        (fun _ _ z => z) (fun _ _ _ z => z) (fun c ps z => ⟨#[], by rw [z]; simp⟩) (fun m' hm => ?_) (fun c u g => ?_) I.bare
      · by_cases nc : c = X.env.locals
        · obtain ⟨oL, _, _, hoL, _⟩ := F'.ns
          exact ⟨oL, by rw [nc]; exact hoL⟩
        · exact ⟨o, kept c o nc g⟩
      · rw [SlX.ns_only hm F.ns]
        exact F'.ns
      · refine (I.hok c u g).stay (fun d v hd r => kept d v ?_ r) (fun _ z => z) fun _ _ z => z
        rcases hd with z | z
        · rw [z]
          exact nL c u g
        · exact nL d _ z
def tMinSum (ta : TA) : TE := fun σ H Q => ta σ H fun vs H1 => ∃ (a : Addr) (as : List Addr) (kf : Nat → Int), vs = [.ref a] ∧ H1 a = some (.lst (as.map V.ref)) ∧ 0 < as.length ∧
  (∀ i b, as[i]? = some b → ∃ ns : List Int, H1 b = some (.lst (ns.map V.int)) ∧ ns.sum = kf i) ∧ ∀ i b, as[i]? = some b → Fst kf as.length i → Q (.ref b) H1
theorem pe_minSum {X : Cx} {e : Expr} {ta : TA} {p p2 pos kpos : Pos} (hc : X.calm = true) (hg : Gl X "min") (hm : X.mg "min" = none) (hg2 : Gl X "sum") (hm2 : X.mg "sum" = none) (ha : PA X [e] ta)
    (he : backTo pos (starEach [e] X.env) = (false, eval e X.env) :: backTo pos (starEach [] X.env) := by rfl) (hpl : (backTo pos (starEach [e] X.env)).any (·.1) = false := by rfl) :
    PE X (.Call (.Name "min" p) [e] [⟨some "key", .Name "sum" p2, kpos⟩] pos) (tMinSum ta) := by
  refine ⟨fun pins s σ H Q I h => ?_⟩
  refine wpAny_Call_Name_kw (ld_blt I hg hm (u := .builtin "min") (by decide +kernel) ?_)
  refine PyProof.Rows.callWith_kw (thn (ha.run pos pins s σ H _ I h) fun us s1 ⟨vs, H1, I1, r1, q1⟩ => ?_) he hpl (by rfl) (by rfl)
  show wpAny _ _ (evalAll ((do let v ← eval (.Name "sum" p2) X.env; standAt pos; pure v) :: [])) _ _ s1
  refine wpAny_evalAll_cons (wpAny_bind (ld_blt I1 hg2 hm2 (u := .builtin "sum") (by decide +kernel) (wpAny_bind (wpAny_standAt (wpAny_pure (wpAny_evalAll_nil ?_))))))
  obtain ⟨a, as, kf, rfl, hl, hne, hk, q⟩ := q1
  rw [Vals.ref1 r1]
  exact min_sum_run hc I1 hl hne hk q
/-- the specification's best is the first of the least -/
theorem best_fst : ∀ (l : List (List Nat)) (u : List Nat), ∃ i, (u :: l)[i]? = some (l.foldl (fun best x => if x.sum < best.sum then x else best) u) ∧ Fst (fun j => ((((u :: l).getD j []).sum : Nat) : Int)) (u :: l).length i
  | [], u => ⟨0, rfl, fun j hj => by
      have e : j = 0 := by
        rw [List.length_cons, List.length_nil] at hj
        omega
      subst e
      exact ⟨Int.le_refl _, fun h => absurd h (Nat.lt_irrefl _)⟩⟩
  | v :: l, u => by
    have cut : ∀ (w : List Nat) (j : Nat) , (((w :: l).getD (j + 1) []).sum : Nat) = (l.getD j []).sum := fun _ _ => rfl
    rw [List.foldl_cons]
    by_cases c : v.sum < u.sum
    · rw [if_pos c]
      obtain ⟨i, h1, h2⟩ := best_fst l v
      refine ⟨i + 1, h1, fun j hj => ?_⟩
      rw [List.length_cons] at hj
      cases j with
      | zero =>
        have t := (h2 0 (Nat.succ_pos _)).1
        have t2 : ((((v :: l).getD i []).sum : Nat) : Int) ≤ (v.sum : Int) := t
        show ((((v :: l).getD i []).sum : Nat) : Int) ≤ (u.sum : Int) ∧ (0 < i + 1 → ((((v :: l).getD i []).sum : Nat) : Int) < (u.sum : Int))
        constructor
        · omega
        · intro _
          omega
      | succ j =>
        have t := h2 j (by omega)
        exact ⟨t.1, fun h => t.2 (by omega)⟩
    · rw [if_neg c]
      obtain ⟨i, h1, h2⟩ := best_fst l u
      cases i with
      | zero =>
        refine ⟨0, h1, fun j hj => ⟨?_, fun h => absurd h (Nat.not_lt_zero _)⟩⟩
        rw [List.length_cons, List.length_cons] at hj
        cases j with
        | zero => exact Int.le_refl _
        | succ j =>
          cases j with
          | zero =>
            show ((u.sum : Nat) : Int) ≤ (v.sum : Int)
            omega
          | succ j => exact (h2 (j + 1) (by rw [List.length_cons]; omega)).1
      | succ i =>
        refine ⟨i + 2, h1, fun j hj => ?_⟩
        rw [List.length_cons, List.length_cons] at hj
        have t0 := (h2 0 (Nat.succ_pos _)).2 (Nat.succ_pos _)
        have t1 : (((l.getD i []).sum : Nat) : Int) < (u.sum : Int) := t0
        cases j with
        | zero =>
          show (((l.getD i []).sum : Nat) : Int) ≤ (u.sum : Int) ∧ (0 < i + 2 → (((l.getD i []).sum : Nat) : Int) < (u.sum : Int))
          exact ⟨by omega, fun _ => t1⟩
        | succ j =>
          cases j with
          | zero =>
            show (((l.getD i []).sum : Nat) : Int) ≤ (v.sum : Int) ∧ (1 < i + 2 → (((l.getD i []).sum : Nat) : Int) < (v.sum : Int))
            exact ⟨by omega, fun _ => by omega⟩
          | succ j =>
            have t := h2 (j + 1) (by rw [List.length_cons]; omega)
            exact ⟨t.1, fun h => t.2 (by omega)⟩
/-- those with a value above 0 at the place -/
def cands (i : Nat) (us : List (List Nat)) : List (List Nat) := us.filter fun x => x.getD i 0 != 0
theorem cands_snoc {i : Nat} {us : List (List Nat)} {v : List Nat} : cands i (us ++ [v]) = cands i us ++ if (v.getD i 0 != 0) = true then [v] else [] := by
  unfold cands
  rw [List.filter_append, List.filter_cons, List.filter_nil]
theorem sum_nI : ∀ g : List Nat, (nI g).sum = ((g.sum : Nat) : Int)
  | [] => rfl
  | n :: g => by
    show (Int.ofNat n :: nI g).sum = _
    rw [List.sum_cons, List.sum_cons, sum_nI g]
    rfl
structure BiO (mg : Str → Option Value) : Prop where
  noel : ∃ t, mg "NO_ELEMENT" = some (.int (-2) t)
def spSW (K : PySem.W.Frag) : Sp := fun vs H Q _ => ∃ (n : Int) (b : Addr) (ns : List Int), vs = [.int n, .ref b] ∧ Ints K H b ns ∧ 0 ≤ n ∧ ns.length ≤ 1000 ∧ ∀ (H' : Hp) (p : Addr), H' p = some (.lst ((LM.smI n ns).map V.int)) → Q (.ref p) H'
section
variable {P : Program} {w : World} {K : PySem.W.Frag} {mg : Str → Option Value} {base : Heap}
theorem scSW : FnScope ["index", "coefficients", "candidates", "smallest", "vector"] ["index", "coefficients"] (defScope sSW) := ⟨rfl, rfl, rfl, by decide +kernel, rfl, by decide +kernel, by decide +kernel⟩
theorem ok_sw {f fC fA fM fH fU fF fO fI : Addr} {fd fdC fdA fdM fdH fdU fdF fdO fdI : FuncData} (F : At K mg "smallest_with" sSW ["index", "coefficients"] f fd) (T : BiA mg) (T3 : BiF mg) (T4 : BiM mg) (T5 : BiG mg) (T6 : BiN mg) (T9 : BiO mg)
    (FC : At K mg "coefficients_allowed" sCA ["coefficients"] fC fdC) (FA : At K mg "all_between" sAB ["lowest", "numbers", "highest"] fA fdA)
    (FM : At K mg "minimal_vectors" sMV ["coefficients"] fM fdM) (FH : At K mg "highest_values" sHV ["coefficients"] fH fdH) (FU : At K mg "vectors_up_to" sVU ["highest"] fU fdU) (FF : At K mg "form_value" sFV ["coefficients", "vector"] fF fdF)
    (FO : At K mg "contains_one_of" sCO ["vector", "others"] fO fdO) (FI : At K mg "is_contained" sIC ["inner", "outer"] fI fdI) : FnOk P w K mg base CX0 4 f fd ["index", "coefficients"] (spSW K) := by
  have GC : FnOk P w K mg base CX0 2 fC fdC ["coefficients"] (spCA K) := ok_ca FC T FA
  have GM : FnOk P w K mg base CX0 3 fM fdM ["coefficients"] (spMV K) := ok_mv FM T T3 T4 FH FU FF FO FI
  obtain ⟨t, m⟩ := T.outside
  obtain ⟨t6, m6⟩ := T6.no
  obtain ⟨t9, m9⟩ := T9.noel
  refine F.fn.ok scSW (fun vs H Q E h => ?_) (fun cdv A outer s H vs Q E hr h => ?_)
  · obtain ⟨n, b, ns, rfl, _⟩ := h
    rfl
  · obtain ⟨n, b, ns, rfl, hS, hn0, hlen, k⟩ := h
    have hr2 : Room 2 _ := hr.mono (by decide)
    refine ⟨_, pss_cons (ps_if (pt_not (pt_val (pe_call GC hr2 rfl FC.mg FC.fn.kp FC.bi .nil pass0 (pa_cons (pv 1) pa_nil)))) (pss_one (ps_ret (pe_lst (pa_cons (pe_glob (v := .int (-22)) rfl m ⟨_, rfl⟩) pa_nil)))) pss_nil)
      (pss_cons (ps_if (pt_cmpR op_ge (pv 0) (pe_callB call_len_seq (by rfl) T.len PySem.boot_len (pa_cons (pv 1) pa_nil)) (nomark _)) (pss_one (ps_ret (pe_lst (pa_cons (pe_glob (v := .int (-2)) rfl m9 ⟨_, rfl⟩) pa_nil)))) pss_nil)
      (pss_cons (ps_setLc (i := 2) (own := [("vector", 4)]) (g := gName 4) rfl scSW.nd rfl rfl (sw_true rfl rfl rfl (by decide +kernel)) (pi_list (pe_call GM hr rfl FM.mg FM.fn.kp FM.bi .nil pass0 (pa_cons (pv 1) pa_nil)))
        (blkOk_by (own := [("vector", 4)]) (N := ["index", "coefficients", "candidates", "smallest", "vector"]) (sc := defScope sSW) (by decide +kernel))
        (fun _ _ _ _ _ => pg_name (i := 4) scSW.nd rfl (Or.inl rfl))
        (fun _ _ _ _ _ => pts_one (pt_cmpR op_gt (pe_ix (r := rIxL K) ix_list (pv 4) (pv 0) (fun _ _ => rfl)) pe_int (nomark _)))
        (fun _ _ _ _ _ => pv 4))
      (pss_cons (ps_if (pt_not (pt_truth (pv 2) (by intro _; rfl))) (pss_one (ps_ret (pe_lst (pa_cons (pe_glob (v := .int (-33)) rfl m6 ⟨_, rfl⟩) pa_nil)))) pss_nil)
      (pss_cons (ps_set (i := 3) scSW.nd rfl (Or.inl rfl) (pe_minSum rfl (by rfl) T5.min (by rfl) T3.sum (pa_cons (pv 2) pa_nil)))
      (pss_one (ps_ret (pe_op op_cat (pe_lst (pa_cons (pe_callB (cr_sum rfl) (by rfl) T3.sum (by decide +kernel) (pa_cons (pv 3) pa_nil)) pa_nil)) (pv 3)))))))), ?_⟩
    have out : ∀ (H' : Hp) (z : Int), LM.smI n ns = [z] → ∀ p, H' p = none → Q (.ref p) (upd H' p (.lst [V.int z])) := fun H' z e p hp => by
      have q := k (upd H' p (.lst [V.int z])) p
      rw [e] at q
      exact q (by rw [upd_same]; rfl)
    refine ⟨_, rfl, b, ns, rfl, hS, hlen, fun H1 s1 => ⟨_, rfl, ?_⟩⟩
    cases e1 : coefOk ns with
    | false => exact iteT ⟨by decide, fun p hp => out H1 (-22) (if_neg (by rw [e1]; exact Bool.false_ne_true)) p hp⟩
    | true =>
      refine iteF ⟨_, rfl, _, rfl, b, _, rfl, .inl (s1.seq hS), _, _, rfl, rfl, _, rfl, ?_⟩
      rw [List.length_map]
      by_cases hi : ns.length ≤ n.toNat
      · have c : (ns.length : Int) ≤ n := by omega
        rw [decide_eq_true c]
        exact iteT ⟨by decide, fun p hp => out H1 (-2) ((if_pos e1).trans (if_pos hi)) p hp⟩
      · have c : ¬ (ns.length : Int) ≤ n := by omega
        rw [decide_eq_false c]
        obtain ⟨g1, g2⟩ := min_facts e1
        have ed : LM.smI n ns = match Ks605.smallestWith ns n.toNat with
          | none => [-33]
          | some v => ((v.sum : Nat) : Int) :: v.map Int.ofNat := (if_pos e1).trans (if_neg hi)
        have es : Ks605.smallestWith ns n.toNat = match cands n.toNat (Ks605.minimalSolutions ns) with
          | [] => none
          | first :: rest => some (rest.foldl (fun best x => if x.sum < best.sum then x else best) first) := rfl
        rw [es] at ed
        refine iteF ⟨_, rfl, b, ns, rfl, s1.seq hS, e1, fun H2 q as s2 nq hq R => ?_⟩
        generalize Ks605.minimalSolutions ns = us at ed g1 g2 R
        have hul := R.len
        refine ⟨q, rfl, ⟨_, SqL.of hq⟩, fun D hD => lc_list (K := K) (a := q) (xs := as.map V.ref) (fun i H' => Same H2 H' ∧ ∃ cs : List Addr, Rows H2 cs (cands n.toNat (us.take i)) ∧ H' D = some (.lst (cs.map V.ref))) ?_ ?_ ?_ ?_⟩
        · exact ⟨Same.new (Same.refl H2) hD, [], trivial, upd_same⟩
        · rintro i H' _ ⟨s3, _⟩
          exact SqL.of (s3 _ _ hq)
        · rintro i y H3 hi2 ⟨s3, cs, Rc, hd⟩
          obtain ⟨c, hc, rfl⟩ := map_at hi2
          obtain ⟨v, hv, hcv⟩ := R.at_ hc
          have hvl := (g2 v (List.mem_of_getElem? hv)).1
          have hlt : n.toNat < v.length := by omega
          have hva : v[n.toNat]? = some (v.getD n.toNat 0) := by
            rw [List.getD_eq_getElem?_getD, List.getElem?_eq_getElem hlt]
            rfl
          have hat : atI ((nI v).map V.int) n = some (V.int (Int.ofNat (v.getD n.toNat 0))) := by
            have e : ((nI v).map V.int)[n.toNat]? = some (V.int (Int.ofNat (v.getD n.toNat 0))) := by
              unfold nI
              rw [List.getElem?_map, List.getElem?_map, hva]
              rfl
            have t := atI_nat e
            rw [Int.toNat_of_nonneg hn0] at t
            exact t
          have et : cands n.toNat (us.take (i + 1)) = cands n.toNat (us.take i) ++ if (v.getD n.toNat 0 != 0) = true then [v] else [] := by
            rw [take_snoc hv, cands_snoc]
          refine ⟨rfl, _, rfl, _, rfl, c, _, _, _, rfl, rfl, SqL.of (s3 _ _ hcv), hat, _, _, rfl, rfl, _, rfl, ?_⟩
          show (if decide ((0 : Int) < Int.ofNat (v.getD n.toNat 0)) = true then _ else _)
          by_cases z : v.getD n.toNat 0 = 0
          · have c0 : ¬ (0 : Int) < Int.ofNat (v.getD n.toNat 0) := by
              rw [z]
              exact Int.lt_irrefl _
            rw [if_neg (fun q => c0 (of_decide_eq_true q))]
            refine ⟨s3, cs, ?_, hd⟩
            rw [et, if_neg (by rw [z]; exact Bool.false_ne_true), List.append_nil]
            exact Rc
          · have c0 : (0 : Int) < Int.ofNat (v.getD n.toNat 0) := by
              show (0 : Int) < ((v.getD n.toNat 0 : Nat) : Int)
              omega
            rw [if_pos (decide_eq_true c0)]
            refine ⟨_, rfl, _, hd, ?_, Same.put s3 hD, cs ++ [c], ?_, ?_⟩
            · rw [List.length_map, Rc.len]
              have t1 : (cands n.toNat (us.take i)).length ≤ (us.take i).length := List.length_filter_le _ _
              rw [List.length_take] at t1
              have : 2402 ≤ sizeLine := by decide
              omega
            · rw [et, if_pos (by rw [bne_iff_ne]; exact z)]
              exact Rows.snoc Rc hcv
            · rw [upd_same, List.map_append]
              rfl
        · rintro H3 ⟨s3, cs, Rc, hd⟩
          rw [List.length_map, hul, List.take_length] at Rc
          have hcl := Rc.len
          have hmem : ∀ v ∈ cands n.toNat us, v ∈ us := fun v hv => (List.mem_filter.mp hv).1
          generalize cands n.toNat us = gs at ed Rc hcl hmem
          refine ⟨_, rfl, _, .inl ⟨_, SqL.of hd, rfl⟩, ?_⟩
          cases gs with
          | nil =>
            have ec : cs = [] := List.eq_nil_of_length_eq_zero hcl
            subst ec
            exact iteT ⟨by decide, fun p hp => out H3 (-33) ed p hp⟩
          | cons u l =>
            have hne : 0 < cs.length := by
              rw [hcl, List.length_cons]
              omega
            obtain ⟨i0, hb1, hb2⟩ := best_fst l u
            cases cs with
            | nil => exact absurd hne (Nat.lt_irrefl _)
            | cons c0 cs =>
              refine iteF ⟨_, rfl, D, c0 :: cs, fun j => ((((u :: l).getD j []).sum : Nat) : Int), rfl, hd, hne, fun i b2 hb => ?_, fun i b2 hb hf => ?_⟩
              · obtain ⟨v, hv, hbv⟩ := Rc.at_ hb
                refine ⟨nI v, s3 _ _ hbv, ?_⟩
                show _ = ((((u :: l).getD i []).sum : Nat) : Int)
                rw [sum_nI, List.getD_eq_getElem?_getD, hv]
                rfl
              · obtain ⟨v, hv, hbv⟩ := Rc.at_ hb
                have hi1 : i < (u :: l).length := (List.getElem?_eq_some_iff.mp hv).1
                have hi3 : i0 < (u :: l).length := (List.getElem?_eq_some_iff.mp hb1).1
                rw [hcl] at hf
                have ei := Fst.only hi1 hi3 hf hb2
                subst ei
                rw [hb1] at hv
                have ev : l.foldl (fun best x => if x.sum < best.sum then x else best) u = v := Option.some.inj hv
                have ed2 : LM.smI n ns = ((v.sum : Nat) : Int) :: v.map Int.ofNat := by
                  rw [ed, ← ev]
                rw [ed2] at k
                have hb3 := s3 _ _ hbv
                have hvl := (g2 v (hmem v (List.mem_of_getElem? (hb1.trans (congrArg some ev))))).1
                refine ⟨_, rfl, b2, _, rfl, SqL.of hb3, (by show 1 ≤ sizeLine; decide), fun t ht => ?_⟩
                have nbt : b2 ≠ t := ne_of_none hb3 ht
                refine ⟨_, rfl, t, b2, _, _, rfl, rfl, upd_same, (by rw [upd_ne nbt]; exact hb3), ?_, fun r hr' => k _ r ?_⟩
                · rw [nV_len]
                  show 1 + _ ≤ sizeLine
                  have : 2402 ≤ sizeLine := by decide
                  omega
                · rw [upd_same, sum_nI]
                  rfl
end
theorem all_mk {P : Program} {w : World} {K : PySem.W.Frag} {h : Heap} {mg : Str → Option Value} {fa f1 f2 f3 f4 f5 f6 f7 f8 f9 : Addr} (X : K.In h) (G : h.Ns mainGlobals mg) (hfa : mg "smallest_with" = some (.ref fa))
    {od1 an1 : Option Addr} {sl1 : Array (Option Value)} {oc1 kV1 dc1 pm1 cd1 ct1 : Value}
    {od2 an2 : Option Addr} {sl2 : Array (Option Value)} {oc2 kV2 dc2 pm2 cd2 ct2 : Value}
    {od3 an3 : Option Addr} {sl3 : Array (Option Value)} {oc3 kV3 dc3 pm3 cd3 ct3 : Value}
    {od4 an4 : Option Addr} {sl4 : Array (Option Value)} {oc4 kV4 dc4 pm4 cd4 ct4 : Value}
    {od5 an5 : Option Addr} {sl5 : Array (Option Value)} {oc5 kV5 dc5 pm5 cd5 ct5 : Value}
    {od6 an6 : Option Addr} {sl6 : Array (Option Value)} {oc6 kV6 dc6 pm6 cd6 ct6 : Value}
    {od7 an7 : Option Addr} {sl7 : Array (Option Value)} {oc7 kV7 dc7 pm7 cd7 ct7 : Value}
    {od8 an8 : Option Addr} {sl8 : Array (Option Value)} {oc8 kV8 dc8 pm8 cd8 ct8 : Value}
    {od9 an9 : Option Addr} {sl9 : Array (Option Value)} {oc9 kV9 dc9 pm9 cd9 ct9 : Value}
    (a1 : PySem.W.nsIn K mainGlobals "smallest_with" = some (some (.ref f1))) (l1 : K.lookup f1 = some ⟨oc1, od1, .func (PySem.W.fnOf "smallest_with" "smallest_with" (defArgs sSW) (defBody sSW) (defScope sSW) .none kV1 dc1 pm1 an1 cd1 ct1), sl1⟩) (c1 : PySem.W.codeIn K cd1 "smallest_with" = true) (k1 : PySem.W.keepIn K (.ref f1) = true)
    (a2 : PySem.W.nsIn K mainGlobals "coefficients_allowed" = some (some (.ref f2))) (l2 : K.lookup f2 = some ⟨oc2, od2, .func (PySem.W.fnOf "coefficients_allowed" "coefficients_allowed" (defArgs sCA) (defBody sCA) (defScope sCA) .none kV2 dc2 pm2 an2 cd2 ct2), sl2⟩) (c2 : PySem.W.codeIn K cd2 "coefficients_allowed" = true) (k2 : PySem.W.keepIn K (.ref f2) = true)
    (a3 : PySem.W.nsIn K mainGlobals "all_between" = some (some (.ref f3))) (l3 : K.lookup f3 = some ⟨oc3, od3, .func (PySem.W.fnOf "all_between" "all_between" (defArgs sAB) (defBody sAB) (defScope sAB) .none kV3 dc3 pm3 an3 cd3 ct3), sl3⟩) (c3 : PySem.W.codeIn K cd3 "all_between" = true) (k3 : PySem.W.keepIn K (.ref f3) = true)
    (a4 : PySem.W.nsIn K mainGlobals "minimal_vectors" = some (some (.ref f4))) (l4 : K.lookup f4 = some ⟨oc4, od4, .func (PySem.W.fnOf "minimal_vectors" "minimal_vectors" (defArgs sMV) (defBody sMV) (defScope sMV) .none kV4 dc4 pm4 an4 cd4 ct4), sl4⟩) (c4 : PySem.W.codeIn K cd4 "minimal_vectors" = true) (k4 : PySem.W.keepIn K (.ref f4) = true)
    (a5 : PySem.W.nsIn K mainGlobals "highest_values" = some (some (.ref f5))) (l5 : K.lookup f5 = some ⟨oc5, od5, .func (PySem.W.fnOf "highest_values" "highest_values" (defArgs sHV) (defBody sHV) (defScope sHV) .none kV5 dc5 pm5 an5 cd5 ct5), sl5⟩) (c5 : PySem.W.codeIn K cd5 "highest_values" = true) (k5 : PySem.W.keepIn K (.ref f5) = true)
    (a6 : PySem.W.nsIn K mainGlobals "vectors_up_to" = some (some (.ref f6))) (l6 : K.lookup f6 = some ⟨oc6, od6, .func (PySem.W.fnOf "vectors_up_to" "vectors_up_to" (defArgs sVU) (defBody sVU) (defScope sVU) .none kV6 dc6 pm6 an6 cd6 ct6), sl6⟩) (c6 : PySem.W.codeIn K cd6 "vectors_up_to" = true) (k6 : PySem.W.keepIn K (.ref f6) = true)
    (a7 : PySem.W.nsIn K mainGlobals "form_value" = some (some (.ref f7))) (l7 : K.lookup f7 = some ⟨oc7, od7, .func (PySem.W.fnOf "form_value" "form_value" (defArgs sFV) (defBody sFV) (defScope sFV) .none kV7 dc7 pm7 an7 cd7 ct7), sl7⟩) (c7 : PySem.W.codeIn K cd7 "form_value" = true) (k7 : PySem.W.keepIn K (.ref f7) = true)
    (a8 : PySem.W.nsIn K mainGlobals "contains_one_of" = some (some (.ref f8))) (l8 : K.lookup f8 = some ⟨oc8, od8, .func (PySem.W.fnOf "contains_one_of" "contains_one_of" (defArgs sCO) (defBody sCO) (defScope sCO) .none kV8 dc8 pm8 an8 cd8 ct8), sl8⟩) (c8 : PySem.W.codeIn K cd8 "contains_one_of" = true) (k8 : PySem.W.keepIn K (.ref f8) = true)
    (a9 : PySem.W.nsIn K mainGlobals "is_contained" = some (some (.ref f9))) (l9 : K.lookup f9 = some ⟨oc9, od9, .func (PySem.W.fnOf "is_contained" "is_contained" (defArgs sIC) (defBody sIC) (defScope sIC) .none kV9 dc9 pm9 an9 cd9 ct9), sl9⟩) (c9 : PySem.W.codeIn K cd9 "is_contained" = true) (k9 : PySem.W.keepIn K (.ref f9) = true)
    (z0 : PySem.W.nsIn K mainGlobals "len" = some none)
    (z1 : PySem.W.nsIn K mainGlobals "all" = some none)
    {y2 : Tok} (z2 : PySem.W.nsIn K mainGlobals "MOST_COEFFICIENTS" = some (some (.int (4) y2)))
    {y3 : Tok} (z3 : PySem.W.nsIn K mainGlobals "LARGEST_COEFFICIENT" = some (some (.int (6) y3)))
    {y4 : Tok} (z4 : PySem.W.nsIn K mainGlobals "OUTSIDE_LIMITS" = some (some (.int (-22) y4)))
    (z5 : PySem.W.nsIn K mainGlobals "sum" = some none)
    (z6 : PySem.W.nsIn K mainGlobals "zip" = some none)
    (z7 : PySem.W.nsIn K mainGlobals "max" = some none)
    (z8 : PySem.W.nsIn K mainGlobals "abs" = some none)
    (z9 : PySem.W.nsIn K mainGlobals "any" = some none)
    (z10 : PySem.W.nsIn K mainGlobals "range" = some none)
    (z11 : PySem.W.nsIn K mainGlobals "min" = some none)
    {y12 : Tok} (z12 : PySem.W.nsIn K mainGlobals "NO_SOLUTION" = some (some (.int (-33) y12)))
    {y13 : Tok} (z13 : PySem.W.nsIn K mainGlobals "NO_ELEMENT" = some (some (.int (-2) y13))) :
    ∃ fd : FuncData, (∀ (s : Shared) (us : List Value), us.length = (["index", "coefficients"] : List Str).length → BindsTo s fd ⟨us, []⟩ ((["index", "coefficients"] : List Str).zip us)) ∧ ∀ base : Heap, K.In base → base.Ns mainGlobals mg → FnOk P w K mg base CX0 4 fa fd ["index", "coefficients"] (spSW K) := by
  have e := hfa.symm.trans (PySem.W.mg_of X G a1)
  cases e
  have A1 := at_mk (st := sSW) (ps := ["index", "coefficients"]) X G a1 l1 c1 k1 fun _ _ _ _ _ _ us hl => match us, hl with | [_, _], _ => rfl
  have A2 := at_mk (st := sCA) (ps := ["coefficients"]) X G a2 l2 c2 k2 fun _ _ _ _ _ _ us hl => match us, hl with | [_], _ => rfl
  have A3 := at_mk (st := sAB) (ps := ["lowest", "numbers", "highest"]) X G a3 l3 c3 k3 fun _ _ _ _ _ _ us hl => match us, hl with | [_, _, _], _ => rfl
  have A4 := at_mk (st := sMV) (ps := ["coefficients"]) X G a4 l4 c4 k4 fun _ _ _ _ _ _ us hl => match us, hl with | [_], _ => rfl
  have A5 := at_mk (st := sHV) (ps := ["coefficients"]) X G a5 l5 c5 k5 fun _ _ _ _ _ _ us hl => match us, hl with | [_], _ => rfl
  have A6 := at_mk (st := sVU) (ps := ["highest"]) X G a6 l6 c6 k6 fun _ _ _ _ _ _ us hl => match us, hl with | [_], _ => rfl
  have A7 := at_mk (st := sFV) (ps := ["coefficients", "vector"]) X G a7 l7 c7 k7 fun _ _ _ _ _ _ us hl => match us, hl with | [_, _], _ => rfl
  have A8 := at_mk (st := sCO) (ps := ["vector", "others"]) X G a8 l8 c8 k8 fun _ _ _ _ _ _ us hl => match us, hl with | [_, _], _ => rfl
  have A9 := at_mk (st := sIC) (ps := ["inner", "outer"]) X G a9 l9 c9 k9 fun _ _ _ _ _ _ us hl => match us, hl with | [_, _], _ => rfl
  have T : BiA mg := ⟨PySem.W.mg_none_of X G z0, PySem.W.mg_none_of X G z1, ⟨_, PySem.W.mg_of X G z2⟩, ⟨_, PySem.W.mg_of X G z3⟩, ⟨_, PySem.W.mg_of X G z4⟩⟩
  have T3 : BiF mg := ⟨PySem.W.mg_none_of X G z5, PySem.W.mg_none_of X G z6⟩
  have T4 : BiM mg := ⟨PySem.W.mg_none_of X G z7, PySem.W.mg_none_of X G z8, PySem.W.mg_none_of X G z9, PySem.W.mg_none_of X G z10⟩
  have T5 : BiG mg := ⟨PySem.W.mg_none_of X G z11⟩
  have T6 : BiN mg := ⟨⟨_, PySem.W.mg_of X G z12⟩⟩
  have T9 : BiO mg := ⟨⟨_, PySem.W.mg_of X G z13⟩⟩
  exact ⟨_, fun s us hu => match us, hu with | [_, _], _ => .of_eq rfl, fun base _ _ => ok_sw A1 T T3 T4 T5 T6 T9 A2 A3 A4 A5 A6 A7 A8 A9⟩
end LS
open PySem PySem.W PyProof.Rows
set_option maxRecDepth 100000 in
set_option maxHeartbeats 0 in
theorem PySem.Challenge.cw_leastsums_s05_smallest_with_holds : PySem.Challenge.rw_leastsums_s05_smallest_with.Holds := by
  w_on; k_headS; (case hw => exact ⟨[.int 0, .list []], by decide +kernel, by decide +kernel⟩)
  k_fillS
  refine L2.walk_specK (r := PySem.Challenge.rw_leastsums_s05_smallest_with) (k := 4) (CX := L2.CX0) (ps := ["index", "coefficients"]) (sp := LS.spSW) (by decide +kernel) rfl rfl ⟨rfl, by decide, by decide⟩ (fun w h Y => PySem.W.kIn_of Y) ?F ?S (fun _ _ _ _ z => z)
  case F =>
    intro w mg fa h Y KX G hmg
    refine' LS.all_mk KX G hmg ?a1 ?l1 ?c1 ?k1 ?a2 ?l2 ?c2 ?k2 ?a3 ?l3 ?c3 ?k3 ?a4 ?l4 ?c4 ?k4 ?a5 ?l5 ?c5 ?k5 ?a6 ?l6 ?c6 ?k6 ?a7 ?l7 ?c7 ?k7 ?a8 ?l8 ?c8 ?k8 ?a9 ?l9 ?c9 ?k9 ?z0 ?z1 ?z2 ?z3 ?z4 ?z5 ?z6 ?z7 ?z8 ?z9 ?z10 ?z11 ?z12 ?z13
    (case a1 => k_is); (case l1 => k_is); (case c1 => k_is); (case k1 => k_is)
    (case a2 => k_is); (case l2 => k_is); (case c2 => k_is); (case k2 => k_is)
    (case a3 => k_is); (case l3 => k_is); (case c3 => k_is); (case k3 => k_is)
    (case a4 => k_is); (case l4 => k_is); (case c4 => k_is); (case k4 => k_is)
    (case a5 => k_is); (case l5 => k_is); (case c5 => k_is); (case k5 => k_is)
    (case a6 => k_is); (case l6 => k_is); (case c6 => k_is); (case k6 => k_is)
    (case a7 => k_is); (case l7 => k_is); (case c7 => k_is); (case k7 => k_is)
    (case a8 => k_is); (case l8 => k_is); (case c8 => k_is); (case k8 => k_is)
    (case a9 => k_is); (case l9 => k_is); (case c9 => k_is); (case k9 => k_is)
    (case z0 => k_is)
    (case z1 => k_is)
    (case z2 => k_is)
    (case z3 => k_is)
    (case z4 => k_is)
    (case z5 => k_is)
    (case z6 => k_is)
    (case z7 => k_is)
    (case z8 => k_is)
    (case z9 => k_is)
    (case z10 => k_is)
    (case z11 => k_is)
    (case z12 => k_is)
    (case z13 => k_is)
  case S =>
    intro K H xs a hO hwi hask hx
    cases hx with
    | cons h1 h2 =>
      cases h2 with
      | cons h2 h3 =>
        cases h3
        cases h1
        cases h2 with
        | lst hs2 ha2 =>
          have e2 := L2.ints_dw a.2.1 _ ha2
          subst e2
          have q : (Codec.inInt 0 4294967295 a.1 && ((Codec.inLen 0 6 a.2.1 && a.2.1.all (Codec.inInt (-2147483648) 2147483647)) && true)) = true := hwi
          rw [Bool.and_eq_true, Bool.and_eq_true, Bool.and_eq_true] at q
          have l2 := (Codec.inNat_iff.mp q.2.1.1).2
          have n0 := q.1
          unfold Codec.inInt at n0
          rw [Bool.and_eq_true, decide_eq_true_iff] at n0
          refine ⟨a.1, _, a.2.1, rfl, hs2, n0.1, by omega, fun H' p hp => ?_⟩
          rw [← LM.sm_spec] at hp
          exact .lst (L2.SqL.of hp) (L2.dw_ints _)
#print axioms PySem.Challenge.cw_leastsums_s05_smallest_with_holds
