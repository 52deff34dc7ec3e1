import PyProof.Rows.All
import Wide.All
import OpenK.AllK
import Wide.FinOn
import Open.SpecLaws
import KE.OsHead
import KE.OsGo
import HandS.Base
import HandS.Call
import HandS.List
import HandS.Comp
import HandS.Iter
import HandS.Ends
import HandS.Spec
import HandS.Words
import HandS.WordsList
import HandS.Walk
import PySem.Challenge.RW_leastsums_s02_evaluate
set_option Elab.async false
set_option maxRecDepth 100000
set_option maxHeartbeats 2000000
namespace LM
open Ks605

/-- the linear form, by recursion -/
def form : List Int → List Nat → Int
  | c :: a, v :: x => c * (v : Int) + form a x
  | _, _ => 0
theorem foldl_add (l : List Int) : ∀ s : Int, l.foldl (· + ·) s = s + l.foldl (· + ·) 0 := by
  induction l with
  | nil => intro s; simp
  | cons c l ih => intro s; rw [List.foldl_cons, List.foldl_cons, ih, ih (0 + c)]; omega
theorem evaluate_eq : ∀ (a : List Int) (x : List Nat), evaluate a x = form a x
  | [], _ => rfl
  | _ :: _, [] => rfl
  | c :: a, v :: x => by
    show (((c, v) :: a.zip x).map fun p => p.1 * (p.2 : Int)).foldl (· + ·) 0 = c * (v : Int) + form a x
    rw [List.map_cons, List.foldl_cons, foldl_add, ← evaluate_eq a x]
    show 0 + c * (v : Int) + evaluate a x = _
    omega
/-- contained, by recursion; of one length -/
def le : List Nat → List Nat → Prop
  | [], [] => True
  | u :: y, v :: x => u ≤ v ∧ le y x
  | _, _ => False
theorem le_len : ∀ {y x : List Nat}, le y x → y.length = x.length
  | [], [], _ => rfl
  | _ :: _, _ :: _, h => by rw [List.length_cons, List.length_cons, le_len h.2]
  | [], _ :: _, h => h.elim
  | _ :: _, [], h => h.elim
theorem le_refl : ∀ x : List Nat, le x x
  | [] => trivial
  | _ :: x => ⟨Nat.le_refl _, le_refl x⟩
theorem le_trans : ∀ {z y x : List Nat}, le z y → le y x → le z x
  | [], [], [], _, _ => trivial
  | _ :: _, _ :: _, _ :: _, h, g => ⟨Nat.le_trans h.1 g.1, le_trans h.2 g.2⟩
  | [], [], _ :: _, _, g => g.elim
  | [], _ :: _, _, h, _ => h.elim
  | _ :: _, [], _, h, _ => h.elim
  | _ :: _, _ :: _, [], _, g => g.elim
theorem le_sum : ∀ {y x : List Nat}, le y x → y.sum ≤ x.sum
  | [], [], _ => Nat.le_refl _
  | _ :: _, _ :: _, h => by rw [List.sum_cons, List.sum_cons]; exact Nat.add_le_add h.1 (le_sum h.2)
  | [], _ :: _, h => h.elim
  | _ :: _, [], h => h.elim
theorem le_sum_eq : ∀ {y x : List Nat}, le y x → x.sum ≤ y.sum → y = x
  | [], [], _, _ => rfl
  | u :: y, v :: x, h, g => by
    rw [List.sum_cons, List.sum_cons] at g
    have h2 := le_sum h.2
    have h1 := h.1
    have e : u = v := by omega
    rw [e, le_sum_eq h.2 (by omega)]
  | [], _ :: _, h, _ => h.elim
  | _ :: _, [], h, _ => h.elim
theorem contained_iff : ∀ {y x : List Nat}, y.length = x.length → (isContained y x = true ↔ le y x)
  | [], [], _ => ⟨fun _ => trivial, fun _ => rfl⟩
  | u :: y, v :: x, h => by
    have ih := contained_iff (y := y) (x := x) (by simpa using h)
    show ((((u, v) :: y.zip x).all fun p => decide (p.1 ≤ p.2)) = true ↔ (u ≤ v ∧ le y x))
    rw [List.all_cons, Bool.and_eq_true, decide_eq_true_iff]
    exact and_congr Iff.rfl ih
  | [], _ :: _, h => by simp at h
  | _ :: _, [], h => by simp at h
/-- all vectors up to a list of highest values, in lexicographic order -/
def box : List Nat → List (List Nat)
  | [] => [[]]
  | h :: hs => (List.range (h + 1)).flatMap fun k => (box hs).map fun r => k :: r
theorem mem_box : ∀ {hs x : List Nat}, x ∈ box hs ↔ le x hs
  | [], [] => ⟨fun _ => trivial, fun _ => List.mem_singleton.mpr rfl⟩
  | [], u :: x => ⟨fun h => by simp [box] at h, fun h => h.elim⟩
  | h :: hs, [] => ⟨fun g => by simp [box] at g, fun g => g.elim⟩
  | h :: hs, u :: x => by
    have ih := mem_box (hs := hs) (x := x)
    show u :: x ∈ (List.range (h + 1)).flatMap (fun k => (box hs).map fun r => k :: r) ↔ (u ≤ h ∧ le x hs)
    rw [List.mem_flatMap]
    constructor
    · rintro ⟨k, hk, g⟩
      rw [List.mem_map] at g
      obtain ⟨r, hr, e⟩ := g
      injection e with e1 e2
      subst e1 e2
      exact ⟨by have := List.mem_range.mp hk; omega, ih.mp hr⟩
    · rintro ⟨hu, hx⟩
      exact ⟨u, List.mem_range.mpr (by omega), List.mem_map.mpr ⟨x, ih.mpr hx, rfl⟩⟩
/-- a vector of the box is not contained in one ahead of it -/
theorem box_pairwise : ∀ hs : List Nat, (box hs).Pairwise fun u v => ¬ le v u
  | [] => List.pairwise_singleton _ _
  | h :: hs => by
    have ih := box_pairwise hs
    show ((List.range (h + 1)).flatMap fun k => (box hs).map fun r => k :: r).Pairwise _
    rw [List.pairwise_flatMap]
    refine ⟨fun k _ => ?_, ?_⟩
    · rw [List.pairwise_map]
      exact ih.imp fun g q => g q.2
    · refine List.pairwise_lt_range.imp ?_
      intro k l hkl x hx y hy
      rw [List.mem_map] at hx hy
      obtain ⟨r, _, rfl⟩ := hx
      obtain ⟨t, _, rfl⟩ := hy
      exact fun q => absurd q.1 (by omega)
theorem bounded_box : ∀ n : Nat, boundedVectors n = box (List.replicate n 6)
  | 0 => rfl
  | n + 1 => by
    show ((List.range 7).flatMap fun first => (boundedVectors n).map fun rest => first :: rest) = _
    rw [bounded_box n]
    rfl
theorem flatMap_filter {α β : Type} (p : β → Bool) (f : α → List β) (l : List α) : (l.flatMap f).filter p = l.flatMap fun x => (f x).filter p := by
  induction l with
  | nil => rfl
  | cons x l ih => rw [List.flatMap_cons, List.filter_append, ih, List.flatMap_cons]
theorem range_cut (g : Nat → List (List Nat)) (h : Nat) (k : Nat) (hh : h ≤ k) : ((List.range (k + 1)).flatMap fun f => if f ≤ h then g f else []) = (List.range (h + 1)).flatMap g := by
  induction k with
  | zero => have e : h = 0 := by omega
            subst e
            simp
  | succ k ih =>
    rcases Nat.lt_or_ge k h with q | q
    · have e : h = k + 1 := by omega
      subst e
      have w : ∀ l : List Nat, (∀ f ∈ l, f ≤ k + 1) → (l.flatMap fun f => if f ≤ k + 1 then g f else []) = l.flatMap g := by
        intro l
        induction l with
        | nil => intro _; rfl
        | cons a l ih => intro hl; rw [List.flatMap_cons, List.flatMap_cons, if_pos (hl a (List.mem_cons_self ..)), ih fun f hf => hl f (List.mem_cons_of_mem _ hf)]
      exact w _ fun f hf => by have := List.mem_range.mp hf; omega
    · rw [List.range_succ, List.flatMap_append, ih q]
      simp
      omega
/-- the smaller box is a part of the greater one -/
theorem box_filter : ∀ {hs ks : List Nat}, le hs ks → box hs = (box ks).filter fun x => isContained x hs
  | [], [], _ => rfl
  | h :: hs, k :: ks, g => by
    have ih := box_filter g.2
    show _ = ((List.range (k + 1)).flatMap fun f => (box ks).map fun r => f :: r).filter _
    rw [flatMap_filter]
    refine Eq.trans (b := (List.range (k + 1)).flatMap fun f => if f ≤ h then (box hs).map fun r => f :: r else []) ?_ (congrArg (fun q => (List.range (k + 1)).flatMap q) (funext fun f => ?_))
    · exact (range_cut (fun f => (box hs).map fun r => f :: r) h k g.1).symm
    · rw [List.filter_map]
      by_cases q : f ≤ h
      · rw [if_pos q, ih]
        congr 1
        refine List.filter_congr fun x hx => ?_
        show _ = (((f, h) :: x.zip hs).all fun p => decide (p.1 ≤ p.2))
        rw [List.all_cons, decide_eq_true q]
        rfl
      · rw [if_neg q]
        have e : (List.filter ((fun x => isContained x (h :: hs)) ∘ fun r => f :: r) (box ks)) = [] := by
          rw [List.filter_eq_nil_iff]
          intro x _ t
          have t' : (((f, h) :: x.zip hs).all fun p => decide (p.1 ≤ p.2)) = true := t
          rw [List.all_cons, Bool.and_eq_true, decide_eq_true_iff] at t'
          exact q t'.1
        rw [e]
        rfl
  | [], _ :: _, h => h.elim
  | _ :: _, [], h => h.elim
/-- one limit more: each vector, then each value behind it -/
def grow (vs : List (List Nat)) (h : Nat) : List (List Nat) := vs.flatMap fun v => (List.range (h + 1)).map fun k => v ++ [k]
theorem grow_box : ∀ (hs : List Nat) (vs : List (List Nat)), hs.foldl grow vs = vs.flatMap fun v => (box hs).map fun r => v ++ r
  | [], vs => by
    show vs = vs.flatMap fun v => [v ++ []]
    induction vs with
    | nil => rfl
    | cons v vs ih => rw [List.flatMap_cons, ← ih, List.append_nil]; rfl
  | h :: hs, vs => by
    rw [List.foldl_cons, grow_box hs]
    unfold grow
    rw [List.flatMap_assoc]
    congr 1
    funext v
    show _ = ((List.range (h + 1)).flatMap fun k => (box hs).map fun r => k :: r).map _
    rw [List.flatMap_map, List.map_flatMap]
    congr 1
    funext k
    rw [List.map_map]
    congr 1
    funext r
    show v ++ [k] ++ r = v ++ (k :: r)
    rw [List.append_assoc]
    rfl
theorem grow_nil (hs : List Nat) : hs.foldl grow [[]] = box hs := by
  rw [grow_box]
  simp
end LM
namespace LM
open Ks605

theorem pigeon : ∀ (p : Nat) (g : Nat → Nat), (∀ k, k ≤ p → g k < p) → ∃ k l, k < l ∧ l ≤ p ∧ g k = g l
  | 0, g, h => absurd (h 0 (Nat.le_refl _)) (by omega)
  | p + 1, g, h => by
    by_cases q : ∃ k, k ≤ p ∧ g k = g (p + 1)
    · obtain ⟨k, hk, e⟩ := q
      exact ⟨k, p + 1, by omega, Nat.le_refl _, e⟩
    · have n : ∀ k, k ≤ p → g k ≠ g (p + 1) := fun k hk e => q ⟨k, hk, e⟩
      have ht := h (p + 1) (Nat.le_refl _)
      obtain ⟨k, l, hkl, hl, e⟩ := pigeon p (fun k => if g (p + 1) < g k then g k - 1 else g k) (fun k hk => by
        have a := h k (by omega)
        have b := n k hk
        show (if g (p + 1) < g k then g k - 1 else g k) < p
        split <;> omega)
      refine ⟨k, l, hkl, by omega, ?_⟩
      have bk := n k (by omega)
      have bl := n l hl
      have e' : (if g (p + 1) < g k then g k - 1 else g k) = (if g (p + 1) < g l then g l - 1 else g l) := e
      split at e' <;> split at e' <;> omega
/-- the first k units of a vector -/
def takeV : Nat → List Nat → List Nat
  | _, [] => []
  | k, v :: x => min k v :: takeV (k - v) x
set_option linter.unusedVariables false
theorem takeV_le : ∀ (k : Nat) (x : List Nat), le (takeV k x) x
  | _, [] => trivial
  | k, v :: x => ⟨Nat.min_le_right _ _, takeV_le _ x⟩
theorem takeV_mono : ∀ {k l : Nat} (x : List Nat), k ≤ l → le (takeV k x) (takeV l x)
  | _, _, [], _ => trivial
  | k, l, v :: x, h => ⟨by omega, takeV_mono x (by omega)⟩
theorem takeV_sum : ∀ (k : Nat) (x : List Nat), (takeV k x).sum = min k x.sum
  | k, [] => by simp [takeV]
  | k, v :: x => by
    show (min k v :: takeV (k - v) x).sum = _
    rw [List.sum_cons, List.sum_cons, takeV_sum]
    omega
def sub : List Nat → List Nat → List Nat
  | v :: x, u :: y => (v - u) :: sub x y
  | _, _ => []
theorem sub_le : ∀ {y x : List Nat}, le y x → le (sub x y) x
  | [], [], _ => trivial
  | _ :: _, _ :: _, h => ⟨Nat.sub_le _ _, sub_le h.2⟩
  | [], _ :: _, h => h.elim
  | _ :: _, [], h => h.elim
theorem sub_sum : ∀ {y x : List Nat}, le y x → (sub x y).sum + y.sum = x.sum
  | [], [], _ => rfl
  | u :: y, v :: x, h => by
    show ((v - u) :: sub x y).sum + _ = _
    rw [List.sum_cons, List.sum_cons, List.sum_cons]
    have := sub_sum h.2
    have := h.1
    omega
  | [], _ :: _, h => h.elim
  | _ :: _, [], h => h.elim
theorem sub_form : ∀ {a : List Int} {y x : List Nat}, le y x → form a (sub x y) = form a x - form a y
  | [], _, _, _ => by simp [form]
  | _ :: _, [], [], _ => rfl
  | c :: a, u :: y, v :: x, h => by
    show c * ((v - u : Nat) : Int) + form a (sub x y) = (c * (v : Int) + form a x) - (c * (u : Int) + form a y)
    rw [sub_form h.2, Int.ofNat_sub h.1, Int.mul_sub]
    omega
  | _, [], _ :: _, h => h.elim
  | _, _ :: _, [], h => h.elim
/-- nothing but where the coefficient is below 0 -/
def Neg : List Int → List Nat → Prop
  | c :: a, v :: x => (0 ≤ c → v = 0) ∧ Neg a x
  | _, _ => True
theorem Neg.le : ∀ {a : List Int} {y x : List Nat}, LM.le y x → Neg a x → Neg a y
  | [], _, _, _, _ => by unfold Neg; trivial
  | _ :: _, [], _, _, _ => by unfold Neg; trivial
  | c :: a, u :: y, v :: x, h, g => ⟨fun q => by have := g.1 q; have := h.1; omega, Neg.le h.2 g.2⟩
  | _, _ :: _, [], h, _ => h.elim
def negPart : List Int → List Nat → List Nat
  | c :: a, v :: x => (if c < 0 then v else 0) :: negPart a x
  | _, x => x
theorem negPart_neg : ∀ (a : List Int) (x : List Nat), Neg a (negPart a x)
  | [], _ => by unfold Neg; trivial
  | _ :: _, [] => by unfold negPart Neg; trivial
  | c :: a, v :: x => ⟨fun q => if_neg (by omega), negPart_neg a x⟩
theorem negPart_le : ∀ (a : List Int) (x : List Nat), le (negPart a x) x
  | [], x => by unfold negPart; exact le_refl x
  | _ :: _, [] => trivial
  | c :: a, v :: x => ⟨by show (if c < 0 then v else 0) ≤ v; split <;> omega, negPart_le a x⟩
theorem negPart_form : ∀ (a : List Int) (x : List Nat), form a (negPart a x) ≤ form a x
  | [], _ => by unfold form; omega
  | _ :: _, [] => Int.le_refl 0
  | c :: a, v :: x => by
    show c * ((if c < 0 then v else 0 : Nat) : Int) + form a (negPart a x) ≤ c * (v : Int) + form a x
    have ih := negPart_form a x
    split
    · omega
    · have : 0 ≤ c * (v : Int) := Int.mul_nonneg (by omega) (by omega)
      simp
      omega
theorem negPart_formAt : ∀ {a : List Int} {x : List Nat} {i : Nat} {p : Int} {v : Nat}, a[i]? = some p → x[i]? = some v → 0 ≤ p → form a (negPart a x) + p * (v : Int) ≤ form a x
  | [], _, _, _, _, h, _, _ => by simp at h
  | _ :: _, [], _, _, _, _, h, _ => by simp at h
  | c :: a, u :: x, 0, p, v, h, g, hp => by
    have e1 : c = p := Option.some.inj h
    have e2 : u = v := Option.some.inj g
    subst e1 e2
    show c * ((if c < 0 then u else 0 : Nat) : Int) + form a (negPart a x) + c * (u : Int) ≤ c * (u : Int) + form a x
    have := negPart_form a x
    rw [if_neg (by omega)]
    simp
    omega
  | c :: a, u :: x, i + 1, p, v, h, g, hp => by
    have ih := negPart_formAt (a := a) (x := x) (i := i) (p := p) (v := v) h g hp
    show c * ((if c < 0 then u else 0 : Nat) : Int) + form a (negPart a x) + p * (v : Int) ≤ c * (u : Int) + form a x
    split
    · omega
    · have : 0 ≤ c * (u : Int) := Int.mul_nonneg (by omega) (by omega)
      simp
      omega
theorem negPart_at : ∀ {a : List Int} {x : List Nat} {i : Nat} {p : Int} {v : Nat}, a[i]? = some p → x[i]? = some v → 0 ≤ p → (negPart a x)[i]? = some 0
  | [], _, _, _, _, h, _, _ => by simp at h
  | _ :: _, [], _, _, _, _, h, _ => by simp at h
  | c :: a, u :: x, 0, p, v, h, g, hp => by
    have e1 : c = p := Option.some.inj h
    subst e1
    show some (if c < 0 then u else 0) = some 0
    rw [if_neg (by omega)]
  | c :: a, u :: x, i + 1, p, v, h, g, hp => negPart_at (a := a) (x := x) (i := i) (p := p) (v := v) h g hp
/-- a vector below 0 alone: its form lies between -M times and -1 times its sum -/
theorem Neg.form : ∀ {a : List Int} {y : List Nat} {M : Int}, a.length = y.length → (∀ c ∈ a, -M ≤ c) → Neg a y → LM.form a y ≤ -(y.sum : Int) ∧ -(M * (y.sum : Int)) ≤ LM.form a y
  | [], [], M, _, _, _ => by simp [LM.form]
  | c :: a, v :: y, M, hl, hM, g => by
    have ih := Neg.form (a := a) (y := y) (M := M) (by simpa using hl) (fun c hc => hM c (List.mem_cons_of_mem _ hc)) g.2
    have hc := hM c (List.mem_cons_self ..)
    show c * (v : Int) + LM.form a y ≤ -(((v :: y).sum : Nat) : Int) ∧ -(M * (((v :: y).sum : Nat) : Int)) ≤ c * (v : Int) + LM.form a y
    rw [List.sum_cons, Int.natCast_add, Int.mul_add]
    rcases Int.lt_or_le c 0 with q | q
    · have h1 : c * (v : Int) ≤ -1 * (v : Int) := Int.mul_le_mul_of_nonneg_right (by omega) (by omega)
      have h2 : -M * (v : Int) ≤ c * (v : Int) := Int.mul_le_mul_of_nonneg_right (by omega) (by omega)
      rw [Int.neg_mul] at h2
      omega
    · have e := g.1 q
      subst e
      simp
      omega
  | [], _ :: _, _, h, _, _ => by simp at h
  | _ :: _, [], _, h, _, _ => by simp at h
/-- of a vector of p units at least, below 0 alone, a part has a form that p divides: the pigeonhole -/
theorem part {a : List Int} {x : List Nat} {M : Int} {p : Nat} (hp : 0 < p) (hl : a.length = x.length) (hM : ∀ c ∈ a, -M ≤ c) (g : Neg a x) (hs : p ≤ x.sum) (hM0 : 0 ≤ M) :
    ∃ (y : List Nat) (c : Nat), le y x ∧ 1 ≤ c ∧ (c : Int) ≤ M ∧ form a y = -((p : Int) * (c : Int)) := by
  obtain ⟨k, l, hkl, hlp, e⟩ := pigeon p (fun k => (form a (takeV k x) % (p : Int)).toNat) (fun k _ => by
    have h1 := Int.emod_nonneg (form a (takeV k x)) (b := (p : Int)) (by omega)
    have h2 := Int.emod_lt_of_pos (form a (takeV k x)) (b := (p : Int)) (by omega)
    show (form a (takeV k x) % (p : Int)).toNat < p
    omega)
  have e' : form a (takeV k x) % (p : Int) = form a (takeV l x) % (p : Int) := by
    have h1 := Int.emod_nonneg (form a (takeV k x)) (b := (p : Int)) (by omega)
    have h2 := Int.emod_nonneg (form a (takeV l x)) (b := (p : Int)) (by omega)
    have e2 : (form a (takeV k x) % (p : Int)).toNat = (form a (takeV l x) % (p : Int)).toNat := e
    omega
  have hm := takeV_mono x (Nat.le_of_lt hkl)
  have hy : le (sub (takeV l x) (takeV k x)) x := le_trans (sub_le hm) (takeV_le l x)
  have hf := sub_form (a := a) hm
  have hsum := sub_sum hm
  rw [takeV_sum, takeV_sum] at hsum
  have hb := Neg.form (M := M) (by rw [le_len hy]; exact hl) hM (Neg.le hy g)
  have hd : (p : Int) ∣ form a (takeV l x) - form a (takeV k x) := by
    refine ⟨form a (takeV l x) / (p : Int) - form a (takeV k x) / (p : Int), ?_⟩
    have h1 := Int.mul_ediv_add_emod (form a (takeV l x)) (p : Int)
    have h2 := Int.mul_ediv_add_emod (form a (takeV k x)) (p : Int)
    rw [Int.mul_sub]
    omega
  obtain ⟨z, hz⟩ := hd
  rw [hz] at hf
  have hS : ((sub (takeV l x) (takeV k x)).sum : Int) = (l : Int) - (k : Int) := by omega
  rw [hS, hf] at hb
  have hzneg : z < 0 := by
    rcases Int.lt_or_le z 0 with q | q
    · exact q
    · have := Int.mul_nonneg (a := (p : Int)) (b := z) (by omega) q
      omega
  have hzM : -M ≤ z := by
    rcases Int.lt_or_le z (-M) with q | q
    · have h1 : (p : Int) * z < (p : Int) * (-M) := Int.mul_lt_mul_of_pos_left q (by omega)
      have h2 : M * ((l : Int) - (k : Int)) ≤ M * (p : Int) := Int.mul_le_mul_of_nonneg_left (by omega) hM0
      rw [Int.mul_neg, Int.mul_comm (p : Int) M] at h1
      omega
    · exact q
  refine ⟨sub (takeV l x) (takeV k x), (-z).toNat, hy, by omega, by omega, ?_⟩
  have ez : (((-z).toNat : Nat) : Int) = -z := by omega
  rw [ez, hf, Int.mul_neg, Int.neg_neg]
end LM
namespace LM
open Ks605

theorem le_at : ∀ {y x : List Nat} {i v : Nat}, le y x → x[i]? = some v → ∃ u, y[i]? = some u ∧ u ≤ v
  | [], [], _, _, _, h => by simp at h
  | u :: y, w :: x, 0, v, h, g => by
    have e : w = v := Option.some.inj g
    subst e
    exact ⟨u, rfl, h.1⟩
  | u :: y, w :: x, i + 1, v, h, g => le_at (y := y) (x := x) (i := i) h.2 g
  | [], _ :: _, _, _, h, _ => h.elim
  | _ :: _, [], _, _, h, _ => h.elim
theorem le_of_at : ∀ {y x : List Nat}, y.length = x.length → (∀ (i u v : Nat), y[i]? = some u → x[i]? = some v → u ≤ v) → le y x
  | [], [], _, _ => trivial
  | u :: y, v :: x, hl, h => ⟨h 0 u v rfl rfl, le_of_at (by simpa using hl) fun i u' v' => h (i + 1) u' v'⟩
  | [], _ :: _, h, _ => by simp at h
  | _ :: _, [], h, _ => by simp at h
theorem le_set : ∀ {y x : List Nat} {i v c : Nat}, le y x → x[i]? = some v → c ≤ v → le (y.set i c) x
  | [], [], _, _, _, _, h, _ => by simp at h
  | u :: y, w :: x, 0, v, c, h, g, hc => by
    have e : w = v := Option.some.inj g
    subst e
    exact ⟨hc, h.2⟩
  | u :: y, w :: x, i + 1, v, c, h, g, hc => ⟨h.1, le_set (y := y) (x := x) (i := i) h.2 g hc⟩
  | [], _ :: _, _, _, _, h, _, _ => h.elim
  | _ :: _, [], _, _, _, h, _, _ => h.elim
theorem form_set : ∀ {a : List Int} {y : List Nat} {i u c : Nat} {p : Int}, a[i]? = some p → y[i]? = some u → form a (y.set i c) = form a y + p * ((c : Int) - (u : Int))
  | [], _, _, _, _, _, h, _ => by simp at h
  | _ :: _, [], _, _, _, _, _, h => by simp at h
  | d :: a, w :: y, 0, u, c, p, h, g => by
    have e1 : d = p := Option.some.inj h
    have e2 : w = u := Option.some.inj g
    subst e1 e2
    show d * (c : Int) + form a y = d * (w : Int) + form a y + d * ((c : Int) - (w : Int))
    rw [Int.mul_sub]
    omega
  | d :: a, w :: y, i + 1, u, c, p, h, g => by
    have ih := form_set (a := a) (y := y) (i := i) (u := u) (c := c) (p := p) h g
    show d * (w : Int) + form a (y.set i c) = d * (w : Int) + form a y + p * ((c : Int) - (u : Int))
    omega
theorem form_neg : ∀ (a : List Int) (x : List Nat), form (a.map fun c => -c) x = -form a x
  | [], _ => rfl
  | _ :: _, [] => rfl
  | c :: a, v :: x => by
    show -c * (v : Int) + form (a.map fun c => -c) x = -(c * (v : Int) + form a x)
    rw [form_neg a x, Int.neg_mul]
    omega
/-- minimal, by the document's words -/
structure IsMin (a : List Int) (x : List Nat) : Prop where
  sol : form a x = 0
  pos : 0 < x.sum
  least : ∀ y, le y x → form a y = 0 → 0 < y.sum → y = x
theorem sum_pos_of_at : ∀ {y : List Nat} {i c : Nat}, y[i]? = some c → 0 < c → 0 < y.sum
  | [], _, _, h, _ => by simp at h
  | w :: y, 0, c, h, hc => by
    have e : w = c := Option.some.inj h
    subst e
    rw [List.sum_cons]
    omega
  | w :: y, i + 1, c, h, hc => by
    have := sum_pos_of_at (y := y) (i := i) h hc
    rw [List.sum_cons]
    omega
theorem bound_pos {a : List Int} {x : List Nat} {M : Int} {i v : Nat} {p : Int} (hl : a.length = x.length) (hM : ∀ c ∈ a, -M ≤ c) (hi : a[i]? = some p) (hv : x[i]? = some v) (hp : 0 < p) (m : IsMin a x) (hM0 : 0 ≤ M) : (v : Int) ≤ M := by
  rcases Int.lt_or_le M (v : Int) with q | q
  · exfalso
    obtain ⟨P, rfl⟩ : ∃ P : Nat, p = (P : Int) := ⟨p.toNat, by omega⟩
    have hn := negPart_formAt hi hv (Int.le_of_lt hp)
    rw [m.sol] at hn
    have hlx := le_len (negPart_le a x)
    have hb := Neg.form (M := M) (by rw [hlx]; exact hl) hM (negPart_neg a x)
    have hs : P ≤ (negPart a x).sum := by
      rcases Nat.lt_or_ge (negPart a x).sum P with t | t
      · exfalso
        have h1 : M * ((negPart a x).sum : Int) ≤ M * (P : Int) := Int.mul_le_mul_of_nonneg_left (by omega) hM0
        have h2 : (P : Int) * M < (P : Int) * (v : Int) := Int.mul_lt_mul_of_pos_left q (by omega)
        rw [Int.mul_comm (P : Int) M] at h2
        omega
      · exact t
    obtain ⟨y, c, hy, hc1, hcM, hf⟩ := part (p := P) (by omega) (by rw [hlx]; exact hl) hM (negPart_neg a x) hs hM0
    have h0 : (negPart a x)[i]? = some 0 := negPart_at hi hv (Int.le_of_lt hp)
    obtain ⟨u, hu, hu0⟩ := le_at hy h0
    have eu : u = 0 := by omega
    subst eu
    have hset : (y.set i c)[i]? = some c := List.getElem?_set_self (List.getElem?_eq_some_iff.mp hu).1
    have e := m.least (y.set i c) (le_set (le_trans hy (negPart_le a x)) hv (by omega)) (by
      rw [form_set hi hu, hf]
      simp
      omega) (sum_pos_of_at hset (by omega))
    rw [e, hv] at hset
    have := Option.some.inj hset
    omega
  · exact q
theorem IsMin.neg {a : List Int} {x : List Nat} (m : IsMin a x) : IsMin (a.map fun c => -c) x :=
  ⟨by rw [form_neg, m.sol]; rfl, m.pos, fun y h f => m.least y h (by rw [form_neg] at f; omega)⟩
theorem bound_zero {a : List Int} {x : List Nat} {i v : Nat} (hi : a[i]? = some 0) (hv : x[i]? = some v) (m : IsMin a x) : v ≤ 1 := by
  rcases Nat.lt_or_ge 1 v with q | q
  · exfalso
    have hz : ∀ x : List Nat, le (x.map fun _ => 0) x := by
      intro x
      induction x with
      | nil => trivial
      | cons v x ih => exact ⟨Nat.zero_le _, ih⟩
    have hf : ∀ (a : List Int) (x : List Nat), form a (x.map fun _ => 0) = 0 := by
      intro a
      induction a with
      | nil => intro x; cases x <;> rfl
      | cons c a ih =>
        intro x
        cases x with
        | nil => rfl
        | cons v x =>
          show c * ((0 : Nat) : Int) + form a (x.map fun _ => 0) = 0
          rw [ih]
          simp
    have hu : (x.map fun _ => 0)[i]? = some 0 := by rw [List.getElem?_map, hv]; rfl
    have hset : ((x.map fun _ => 0).set i 1)[i]? = some 1 := List.getElem?_set_self (List.getElem?_eq_some_iff.mp hu).1
    have e := m.least ((x.map fun _ => 0).set i 1) (le_set (hz x) hv (by omega)) (by rw [form_set hi hu, hf]; simp) (sum_pos_of_at hset (by omega))
    rw [e, hv] at hset
    have := Option.some.inj hset
    omega
  · exact q
/-- the highest value of each place, beside the largest coefficient M -/
def highest (M : Nat) (a : List Int) : List Nat := a.map fun c => if c = 0 then 1 else M
theorem bound {a : List Int} {x : List Nat} {M : Nat} (hl : x.length = a.length) (hM : ∀ c ∈ a, -(M : Int) ≤ c ∧ c ≤ (M : Int)) (m : IsMin a x) : le x (highest M a) := by
  refine le_of_at (by rw [hl]; unfold highest; rw [List.length_map]) fun i u v hu hv => ?_
  unfold highest at hv
  rw [List.getElem?_map] at hv
  cases e : a[i]? with
  | none => rw [e] at hv; cases hv
  | some p =>
    rw [e] at hv
    have hv' : (if p = 0 then 1 else M) = v := Option.some.inj hv
    have hp := hM p (List.mem_of_getElem? e)
    split at hv'
    · rename_i q
      subst q hv'
      exact bound_zero e hu m
    · rename_i q
      subst hv'
      rcases Int.lt_or_le p 0 with t | t
      · have := bound_pos (M := (M : Int)) (p := -p) (by rw [List.length_map, hl]) (fun c hc => by
          rw [List.mem_map] at hc
          obtain ⟨d, hd, rfl⟩ := hc
          have := (hM d hd).2
          omega) (by rw [List.getElem?_map, e]; rfl) hu (by omega) m.neg (by omega)
        omega
      · have := bound_pos (M := (M : Int)) hl.symm (fun c hc => (hM c hc).1) e hu (by omega) m (by omega)
        omega
/-- below every solution but zero lies a minimal one -/
theorem below {a : List Int} : ∀ (n : Nat) {y : List Nat}, y.sum ≤ n → form a y = 0 → 0 < y.sum → ∃ m, le m y ∧ IsMin a m
  | 0, _, hn, _, h => by omega
  | n + 1, y, hn, hf, h => by
    by_cases q : ∃ z, le z y ∧ form a z = 0 ∧ 0 < z.sum ∧ z ≠ y
    · obtain ⟨z, hz, hfz, hz0, hne⟩ := q
      have hlt : z.sum < y.sum := by
        rcases Nat.lt_or_ge z.sum y.sum with t | t
        · exact t
        · exact absurd (le_sum_eq hz t) hne
      obtain ⟨m, hm, mm⟩ := below n (y := z) (by omega) hfz hz0
      exact ⟨m, le_trans hm hz, mm⟩
    · refine ⟨y, le_refl y, hf, h, fun z hz hfz hz0 => ?_⟩
      rcases Classical.em (z = y) with e | e
      · exact e
      · exact absurd ⟨z, hz, hfz, hz0, e⟩ q
/-! the specification's list -/
theorem any_pos : ∀ x : List Nat, (x.any fun v => v != 0) = decide (0 < x.sum)
  | [] => rfl
  | v :: x => by
    rw [List.any_cons, any_pos x, List.sum_cons]
    cases v with
    | zero => simp
    | succ v => simp; omega
theorem mem_nonzero {a : List Int} {y : List Nat} : y ∈ nonzeroSolutions a ↔ le y (List.replicate a.length 6) ∧ form a y = 0 ∧ 0 < y.sum := by
  unfold nonzeroSolutions
  rw [List.mem_filter, bounded_box, mem_box, Bool.and_eq_true, any_pos, decide_eq_true_iff]
  unfold isSolution
  rw [beq_iff_eq, evaluate_eq]
/-- minimal, as the specification's filter tells it -/
def minB (a : List Int) (x : List Nat) : Bool := (isSolution a x && x.any fun v => v != 0) && !((nonzeroSolutions a).any fun y => y != x && isContained y x)
theorem minB_iff {a : List Int} {x : List Nat} (hx : le x (List.replicate a.length 6)) : minB a x = true ↔ IsMin a x := by
  unfold minB
  rw [Bool.and_eq_true, Bool.and_eq_true, any_pos, decide_eq_true_iff]
  unfold isSolution
  rw [beq_iff_eq, evaluate_eq]
  constructor
  · rintro ⟨⟨h1, h2⟩, h3⟩
    refine ⟨h1, h2, fun y hy hf h0 => ?_⟩
    rcases Classical.em (y = x) with e | e
    · exact e
    · exfalso
      rw [Bool.not_eq_true', List.any_eq_false] at h3
      refine h3 y (mem_nonzero.mpr ⟨le_trans hy hx, hf, h0⟩) ?_
      rw [Bool.and_eq_true, (contained_iff (le_len hy)), bne_iff_ne]
      exact ⟨e, hy⟩
  · rintro m
    refine ⟨⟨m.sol, m.pos⟩, ?_⟩
    rw [Bool.not_eq_true', List.any_eq_false]
    intro y hy t
    rw [Bool.and_eq_true, bne_iff_ne] at t
    have hy' := mem_nonzero.mp hy
    have hl : y.length = x.length := (le_len hy'.1).trans (le_len hx).symm
    exact t.1 (m.least y ((contained_iff hl).mp t.2) hy'.2.1 hy'.2.2)
theorem minimal_filter (a : List Int) : minimalSolutions a = (boundedVectors a.length).filter (minB a) := by
  show (nonzeroSolutions a).filter (fun x => !((nonzeroSolutions a).any fun y => y != x && isContained y x)) = _
  conv => lhs; arg 2; unfold nonzeroSolutions
  rw [List.filter_filter]
  refine List.filter_congr fun x _ => ?_
  unfold minB
  rw [Bool.and_comm]
theorem le_highest {a : List Int} {M : Nat} (h6 : M ≤ 6) : le (highest M a) (List.replicate a.length 6) := by
  induction a with
  | nil => trivial
  | cons c a ih => exact ⟨by show (if c = 0 then 1 else M) ≤ 6; split <;> omega, ih⟩
theorem minimal_box {a : List Int} {M : Nat} (hM : ∀ c ∈ a, -(M : Int) ≤ c ∧ c ≤ (M : Int)) (h6 : M ≤ 6) : minimalSolutions a = (box (highest M a)).filter (minB a) := by
  rw [minimal_filter, bounded_box, box_filter (le_highest (a := a) h6), List.filter_filter]
  refine List.filter_congr fun x hx => ?_
  have hx' := mem_box.mp hx
  cases e : minB a x with
  | false => rfl
  | true =>
    have hl : x.length = a.length := by rw [le_len hx', List.length_replicate]
    have b := bound hl hM ((minB_iff hx').mp e)
    rw [(contained_iff (le_len b)).mpr b]
    rfl
/-! the loop -/
def step (a : List Int) (found : List (List Nat)) (v : List Nat) : List (List Nat) :=
  if (!(v.any fun k => k != 0)) = true ∨ form a v ≠ 0 then found else if (found.any fun u => isContained u v) = true then found else found ++ [v]
theorem loop {a : List Int} {M : Nat} (hM : ∀ c ∈ a, -(M : Int) ≤ c ∧ c ≤ (M : Int)) (h6 : M ≤ 6) : ∀ (post pre : List (List Nat)), box (highest M a) = pre ++ post → post.foldl (step a) (pre.filter (minB a)) = (box (highest M a)).filter (minB a)
  | [], pre, e => by rw [e, List.append_nil]; rfl
  | v :: post, pre, e => by
    rw [List.foldl_cons]
    have e' : box (highest M a) = (pre ++ [v]) ++ post := by rw [e, List.append_assoc]; rfl
    have hpw := box_pairwise (highest M a)
    rw [e, List.pairwise_append] at hpw
    obtain ⟨_, hpost, hcross⟩ := hpw
    have hv : v ∈ box (highest M a) := by rw [e]; exact List.mem_append_right _ (List.mem_cons_self ..)
    have hv1 := mem_box.mp hv
    have hv6 := le_trans hv1 (le_highest h6)
    have s : step a (pre.filter (minB a)) v = (pre ++ [v]).filter (minB a) := by
      rw [List.filter_append]
      unfold step
      by_cases q : (!(v.any fun k => k != 0)) = true ∨ form a v ≠ 0
      · rw [if_pos q]
        have n : minB a v = false := by
          rw [Bool.eq_false_iff]
          intro t
          have m := (minB_iff hv6).mp t
          rcases q with q | q
          · rw [any_pos, decide_eq_true m.pos] at q
            cases q
          · exact q m.sol
        rw [List.filter_cons, n]
        simp
      · rw [if_neg q]
        have hs : form a v = 0 := by
          rcases Classical.em (form a v = 0) with t | t
          · exact t
          · exact absurd (.inr t) q
        have h0 : 0 < v.sum := by
          rcases Nat.lt_or_ge 0 v.sum with t | t
          · exact t
          · refine absurd (.inl ?_) q
            rw [any_pos, decide_eq_false (by omega)]
            rfl
        by_cases r : ((pre.filter (minB a)).any fun u => isContained u v) = true
        · rw [if_pos r]
          have n : minB a v = false := by
            rw [Bool.eq_false_iff]
            intro t
            have m := (minB_iff hv6).mp t
            rw [List.any_eq_true] at r
            obtain ⟨u, hu, c⟩ := r
            rw [List.mem_filter] at hu
            have hu1 := mem_box.mp (show u ∈ box (highest M a) by rw [e]; exact List.mem_append_left _ hu.1)
            have mu := (minB_iff (le_trans hu1 (le_highest h6))).mp hu.2
            have c' := (contained_iff ((le_len hu1).trans (le_len hv1).symm)).mp c
            have euv := m.least u c' mu.sol mu.pos
            exact hcross u hu.1 v (List.mem_cons_self ..) (by rw [euv]; exact le_refl v)
          rw [List.filter_cons, n]
          simp
        · rw [if_neg r]
          have y : minB a v = true := by
            rw [minB_iff hv6]
            obtain ⟨m, hm, mm⟩ := below v.sum (Nat.le_refl _) hs h0
            have hmb : m ∈ box (highest M a) := mem_box.mpr (le_trans hm hv1)
            rw [e, List.mem_append] at hmb
            rcases hmb with t | t
            · exfalso
              refine r (List.any_eq_true.mpr ⟨m, List.mem_filter.mpr ⟨t, (minB_iff (le_trans hm hv6)).mpr mm⟩, (contained_iff (le_len hm)).mpr hm⟩)
            · rcases List.mem_cons.mp t with t | t
              · rw [← t]
                exact mm
              · exact absurd hm ((List.pairwise_cons.mp hpost).1 m t)
          rw [List.filter_cons, y]
          rfl
    rw [s]
    exact loop hM h6 post (pre ++ [v]) e'
/-- the program's loop gives the specification's list -/
theorem minimal_loop {a : List Int} {M : Nat} (hM : ∀ c ∈ a, -(M : Int) ≤ c ∧ c ≤ (M : Int)) (h6 : M ≤ 6) : (box (highest M a)).foldl (step a) [] = minimalSolutions a := by
  rw [minimal_box hM h6]
  exact loop hM h6 (box (highest M a)) [] rfl
end LM
namespace LM
open Ks605

def btw (lo hi n : Int) : Bool := decide (lo ≤ n) && decide (n ≤ hi)
def within (lo hi : Int) (ns : List Int) : Bool := ns.all fun n => btw lo hi n
/-- the coefficients are within their limits -/
def coefOk (ns : List Int) : Bool := (decide (1 ≤ (ns.length : Int)) && decide ((ns.length : Int) ≤ 4)) && within (-6) 6 ns
def vecOk (ns ms : List Int) : Bool := decide ((ms.length : Int) = (ns.length : Int)) && within 0 12 ms
def formI (ns ms : List Int) : Int := ((ns.zip ms).map fun p => p.1 * p.2).sum
def evalI (ns ms : List Int) : List Int := if coefOk ns = true ∧ vecOk ns ms = true then [if formI ns ms = 0 then 1 else 0, formI ns ms] else [-22]
theorem within_mem {lo hi n : Int} {ns : List Int} (h : within lo hi ns = true) (m : n ∈ ns) : lo ≤ n ∧ n ≤ hi := by
  have q := List.all_eq_true.mp h n m
  unfold btw at q
  rw [Bool.and_eq_true, decide_eq_true_iff, decide_eq_true_iff] at q
  exact q
theorem coef_mem {n : Int} {ns : List Int} (h : coefOk ns = true) (m : n ∈ ns) : -6 ≤ n ∧ n ≤ 6 := by
  unfold coefOk at h
  rw [Bool.and_eq_true] at h
  exact within_mem h.2 m
theorem coef_len {ns : List Int} (h : coefOk ns = true) : 1 ≤ ns.length ∧ ns.length ≤ 4 := by
  unfold coefOk at h
  rw [Bool.and_eq_true, Bool.and_eq_true, decide_eq_true_iff, decide_eq_true_iff] at h
  omega
theorem coef_spec (ns : List Int) : areValidCoefficients ns = coefOk ns := by
  unfold areValidCoefficients coefOk within btw maxVariables maxCoefficient
  congr 1
  · congr 1
    · exact decide_eq_decide.mpr (by omega)
    · exact decide_eq_decide.mpr (by omega)
  · congr 1
    funext v
    rw [← Bool.decide_and]
    exact decide_eq_decide.mpr (by omega)
theorem vec_spec {ns ms : List Int} (h0 : ∀ m ∈ ms, 0 ≤ m) : isValidVector ns.length (ms.map Int.toNat) = vecOk ns ms := by
  unfold isValidVector vecOk within btw
  rw [List.length_map, List.all_map]
  congr 1
  · rw [Bool.eq_iff_iff, beq_iff_eq, decide_eq_true_iff]
    omega
  · rw [Bool.eq_iff_iff, List.all_eq_true, List.all_eq_true]
    refine forall_congr' fun m => forall_congr' fun hm => ?_
    have := h0 m hm
    show (decide (m.toNat ≤ 12) = true ↔ (decide (0 ≤ m) && decide (m ≤ 12)) = true)
    rw [Bool.and_eq_true, decide_eq_true_iff, decide_eq_true_iff, decide_eq_true_iff]
    omega
theorem form_spec : ∀ {ns ms : List Int}, (∀ m ∈ ms, 0 ≤ m) → form ns (ms.map Int.toNat) = formI ns ms
  | [], ms, _ => by cases ms <;> rfl
  | _ :: _, [], _ => rfl
  | n :: ns, m :: ms, h => by
    have ih := form_spec (ns := ns) (ms := ms) fun k hk => h k (List.mem_cons_of_mem _ hk)
    show n * ((m.toNat : Nat) : Int) + form ns (ms.map Int.toNat) = (n * m :: ((ns.zip ms).map fun p => p.1 * p.2)).sum
    rw [List.sum_cons, ih, Int.toNat_of_nonneg (h m (List.mem_cons_self ..))]
    rfl
theorem eval_spec {ns ms : List Int} (h0 : ∀ m ∈ ms, 0 ≤ m) : PyKs605.evaluate ns ms = evalI ns ms := by
  show Ks605Neutral.integers (Ks605.answer (.evaluate ns (ms.map Int.toNat))) = _
  show Ks605Neutral.integers (if areValidCoefficients ns = true then (if isValidVector ns.length (ms.map Int.toNat) = true then { value := if isSolution ns (ms.map Int.toNat) then 1 else 0, rest := [evaluate ns (ms.map Int.toNat)] } else number (-22)) else number (-22)) = _
  unfold evalI
  rw [coef_spec, vec_spec h0]
  unfold isSolution
  rw [evaluate_eq, form_spec h0]
  cases coefOk ns with
  | false => rfl
  | true =>
    cases vecOk ns ms with
    | false => rfl
    | true =>
      show [(if (formI ns ms == 0) = true then 1 else 0 : Int), formI ns ms] = if true = true ∧ true = true then [if formI ns ms = 0 then 1 else 0, formI ns ms] else [-22]
      rw [if_pos (show true = true ∧ true = true from ⟨rfl, rfl⟩)]
      by_cases z : formI ns ms = 0
      · rw [if_pos (beq_iff_eq.mpr z), if_pos z]
      · rw [if_neg (fun q => z (beq_iff_eq.mp q)), if_neg z]
end LM
namespace LM
open Ks605
def minI (ns : List Int) : List Int := if coefOk ns = true then ((minimalSolutions ns).length : Int) :: (minimalSolutions ns).flatMap integers else [-22]
theorem minimal_spec (ns : List Int) : PyKs605.minimal_solutions ns = minI ns := by
  show Ks605Neutral.integers (Ks605.answer (.minimalSolutions ns)) = _
  show Ks605Neutral.integers (if areValidCoefficients ns = true then { value := (minimalSolutions ns).length, rest := (minimalSolutions ns).flatMap integers } else number (-22)) = _
  unfold minI
  rw [coef_spec]
  cases coefOk ns with
  | false => rfl
  | true => rfl
theorem min_mem {ns : List Int} {v : List Nat} (h : v ∈ minimalSolutions ns) : le v (List.replicate ns.length 6) ∧ IsMin ns v := by
  rw [minimal_filter, List.mem_filter, bounded_box] at h
  have b := mem_box.mp h.1
  exact ⟨b, (minB_iff b).mp h.2⟩
end LM
namespace LS
open PySem PySem.Spec PyProof.Rows L2
open PySem.W (Codec)
open LM (btw within coefOk vecOk formI evalI within_mem coef_mem)
def top (i : Nat) : Stmt := PySem.Challenge.pw_leastsums_s02_evaluate.main.body.getD i (.Pass ⟨0, 0, 0, 0⟩)
abbrev sEv : Stmt := top 5
abbrev sAA : Stmt := top 6
abbrev sCA : Stmt := top 7
abbrev sVA : Stmt := top 8
abbrev sAB : Stmt := top 9
abbrev sFV : Stmt := top 10
/-- a list of whole numbers at a -/
abbrev Ints (K : PySem.W.Frag) (H : Hp) (a : Addr) (ns : List Int) : Prop := SqL K H a (ns.map V.int)
theorem Same.new {H H' : Hp} {p : Addr} {o : HO} (s : Same H H') (h : H' p = none) : Same H (upd H' p o) := fun b u e => by
  rw [upd_ne (ne_of_none (s b u e) h)]
  exact s b u e
/-- what was new at the start is changed -/
theorem Same.put {H H' : Hp} {p : Addr} {o : HO} (s : Same H H') (h : H p = none) : Same H (upd H' p o) := fun b u e => by
  rw [upd_ne (ne_of_none e h)]
  exact s b u e
theorem map_at {α : Type} {f : α → V} {l : List α} {i : Nat} {x : V} (h : (l.map f)[i]? = some x) : ∃ z, l[i]? = some z ∧ x = f z := by
  rw [List.getElem?_map] at h
  cases e : l[i]? with
  | none => rw [e] at h; cases h
  | some z => rw [e] at h; exact ⟨z, rfl, (Option.some.inj h).symm⟩
theorem take_snoc {α : Type} : ∀ {l : List α} {i : Nat} {x : α}, l[i]? = some x → l.take (i + 1) = l.take i ++ [x]
  | [], i, x, h => by simp at h
  | a :: l, 0, x, h => by
    have e : a = x := Option.some.inj h
    subst e
    rfl
  | a :: l, i + 1, x, h => by
    have ih := take_snoc (l := l) (i := i) (x := x) h
    show a :: l.take (i + 1) = a :: l.take i ++ [x]
    rw [ih]
    rfl
/-- a turn of a comprehension: the new list grows by one -/
theorem lc_put {α : Type} {ns : List α} {f : α → V} {H0 H4 : Hp} {D : Addr} {i : Nat} {z : α} {y : V} (s : Same H0 H4) (hD : H0 D = none) (hd : H4 D = some (.lst ((ns.take i).map f))) (hz : ns[i]? = some z) (hy : y = f z) (hlen : ns.length ≤ 1000) :
    ∃ acc, H4 D = some (.lst acc) ∧ acc.length < sizeLine ∧ Same H0 (upd H4 D (.lst (acc ++ [y]))) ∧ upd H4 D (.lst (acc ++ [y])) D = some (.lst ((ns.take (i + 1)).map f)) := by
  refine ⟨_, hd, ?_, Same.put s hD, ?_⟩
  · rw [List.length_map, List.length_take]
    exact small1000 (Nat.le_trans (Nat.min_le_right _ _) hlen)
  · rw [upd_same, take_snoc hz, List.map_append, hy]
    rfl
theorem vint_eq (x y : Int) : decide (V.int x = V.int y) = decide (x = y) := by
  by_cases h : x = y
  · rw [h, decide_eq_true rfl, decide_eq_true rfl]
  · rw [decide_eq_false h, decide_eq_false (fun e => h (V.int.inj e))]
/-- a def of the text as it stands behind the top: its object, its name, how its arguments bind -/
structure At (K : PySem.W.Frag) (mg : Str → Option Value) (x : Str) (st : Stmt) (ps : List Str) (f : Addr) (fd : FuncData) : Prop where
  fn : Fun K x x st f fd
  mg : mg x = some (.ref f)
  bi : Binds K fd ps []
theorem at_mk {K : PySem.W.Frag} {h : Heap} {mg : Str → Option Value} {x : Str} {st : Stmt} {ps : List Str} {f : Addr} {oc : Value} {od an : Option Addr} {osl : Array (Option Value)} {kV doc pm cdv ct : Value} (X : K.In h) (G : h.Ns mainGlobals mg) (a : PySem.W.nsIn K mainGlobals x = some (some (.ref f)))
    (l : K.lookup f = some ⟨oc, od, .func (PySem.W.fnOf x x (defArgs st) (defBody st) (defScope st) .none kV doc pm an cdv ct), osl⟩) (c : PySem.W.codeIn K cdv x = true) (k : PySem.W.keepIn K (.ref f) = true)
    (b : ∀ (kV doc pm : Value) (an : Option Addr) (cdv ct : Value) (us : List Value), us.length = ps.length → bindArgs (PySem.W.fnOf x x (defArgs st) (defBody st) (defScope st) .none kV doc pm an cdv ct) ⟨us, []⟩ = pure (ps.zip us)) :
    At K mg x st ps f (PySem.W.fnOf x x (defArgs st) (defBody st) (defScope st) .none kV doc pm an cdv ct) :=
  ⟨fun_mk l c k, PySem.W.mg_of X G a, (fun_mk l c k).binds b⟩
structure BiA (mg : Str → Option Value) : Prop where
  len : mg "len" = none
  all : mg "all" = none
  most : ∃ t, mg "MOST_COEFFICIENTS" = some (.int 4 t)
  largest : ∃ t, mg "LARGEST_COEFFICIENT" = some (.int 6 t)
  outside : ∃ t, mg "OUTSIDE_LIMITS" = some (.int (-22) t)
def spAB (K : PySem.W.Frag) : Sp := fun vs H Q _ => ∃ (lo hi : Int) (a : Addr) (ns : List Int), vs = [.int lo, .ref a, .int hi] ∧ Ints K H a ns ∧ ns.length ≤ 1000 ∧ ∀ H' : Hp, Same H H' → Q (.bl (within lo hi ns)) H'
/-- the limits of the coefficients -/
def spCA (K : PySem.W.Frag) : Sp := fun vs H Q _ => ∃ (a : Addr) (ns : List Int), vs = [.ref a] ∧ Ints K H a ns ∧ ns.length ≤ 1000 ∧ ∀ H' : Hp, Same H H' → Q (.bl (coefOk ns)) H'
section
variable {P : Program} {w : World} {K : PySem.W.Frag} {mg : Str → Option Value} {base : Heap}
theorem scAB : FnScope ["lowest", "numbers", "highest", "number"] ["lowest", "numbers", "highest"] (defScope sAB) := ⟨rfl, rfl, rfl, by decide +kernel, rfl, by decide +kernel, by decide +kernel⟩
theorem ok_ab {f : Addr} {fd : FuncData} (F : At K mg "all_between" sAB ["lowest", "numbers", "highest"] f fd) (T : BiA mg) : FnOk P w K mg base CX0 1 f fd ["lowest", "numbers", "highest"] (spAB K) := by
  refine F.fn.ok scAB (fun vs H Q E h => ?_) (fun cdv A outer s H vs Q E hr h => ?_)
  · obtain ⟨lo, hi, a, ns, rfl, _⟩ := h
    rfl
  · obtain ⟨lo, hi, a, ns, rfl, hS, hlen, k⟩ := h
    refine ⟨_, pss_one (ps_ret (pe_callB (cr_all rfl) (by rfl) T.all (by decide +kernel) (pa_cons (pe_lc (own := [("number", 3)]) (g := gName 3) (tt := tYes) rfl scAB.nd (pi_list (pv 1))
      (blkOk_by (own := [("number", 3)]) (N := ["lowest", "numbers", "highest", "number"]) (sc := defScope sAB) (by decide +kernel)) (fun _ _ _ _ _ => pg_name (i := 3) scAB.nd rfl (Or.inl rfl)) (fun _ _ _ _ _ => pts_nil)
      (fun _ _ _ _ _ => pe_chain op_le op_le (pv 0) (pv 3) (pv 2))) pa_nil))), ?_⟩
    refine ⟨_, rfl, a, rfl, ⟨_, hS⟩, fun D hD => ?_⟩
    refine lc_list (K := K) (a := a) (xs := ns.map V.int) (fun i H' => Same H H' ∧ H' D = some (.lst ((ns.take i).map fun n => V.bl (btw lo hi n)))) ?_ ?_ ?_ ?_
    · exact ⟨Same.new (Same.refl H) hD, upd_same⟩
    · rintro i H' _ ⟨s1, _⟩
      exact s1.seq hS
    · rintro i x H' hi' ⟨s1, hd⟩
      obtain ⟨z, hz, rfl⟩ := map_at hi'
      refine ⟨rfl, ?_⟩
      refine ⟨_, rfl, _, rfl, _, _, rfl, rfl, _, rfl, ?_⟩
      cases e : decide (lo ≤ z) with
      | false => exact iteF (lc_put (f := fun n => V.bl (btw lo hi n)) s1 hD hd hz (by show _ = V.bl (btw lo hi z); unfold btw; rw [e]; rfl) hlen)
      | true =>
        refine iteT ⟨_, rfl, _, _, rfl, rfl, ?_⟩
        exact lc_put (f := fun n => V.bl (btw lo hi n)) s1 hD hd hz (by show _ = V.bl (btw lo hi z); unfold btw; rw [e]; rfl) hlen
    · rintro H' ⟨s1, hd⟩
      refine ⟨D, ns.map (btw lo hi), rfl, SqL.of ?_, ?_⟩
      · rw [hd, List.length_map, List.take_length, List.map_map]
        rfl
      · have e : (List.map (btw lo hi) ns).all id = within lo hi ns := by
          unfold within
          rw [List.all_map]
          rfl
        rw [e]
        exact k H' s1
theorem scCA : FnScope ["coefficients"] ["coefficients"] (defScope sCA) := ⟨rfl, rfl, rfl, by decide +kernel, rfl, by decide +kernel, by decide +kernel⟩
theorem ok_ca {f fA : Addr} {fd fdA : FuncData} (F : At K mg "coefficients_allowed" sCA ["coefficients"] f fd) (T : BiA mg) (FA : At K mg "all_between" sAB ["lowest", "numbers", "highest"] fA fdA) :
    FnOk P w K mg base CX0 2 f fd ["coefficients"] (spCA K) := by
  have GA : FnOk P w K mg base CX0 1 fA fdA ["lowest", "numbers", "highest"] (spAB K) := ok_ab FA T
  obtain ⟨t4, m4⟩ := T.most
  obtain ⟨t6, m6⟩ := T.largest
  refine F.fn.ok scCA (fun vs H Q E h => ?_) (fun cdv A outer s H vs Q E hr h => ?_)
  · obtain ⟨a, ns, rfl, _⟩ := h
    rfl
  · obtain ⟨a, ns, rfl, hS, hlen, k⟩ := h
    refine ⟨_, pss_cons (ps_if (pt_not (pt_chain op_le op_le pe_int (pe_callB call_len_seq (by rfl) T.len PySem.boot_len (pa_cons (pv 0) pa_nil)) (pe_glob (v := .int 4) rfl m4 ⟨_, rfl⟩))) (pss_one (ps_ret pe_bl)) pss_nil)
      (pss_one (ps_ret (pe_call GA hr rfl FA.mg FA.fn.kp FA.bi .nil pass0 (pa_cons (pe_un un_neg (pe_glob (v := .int 6) rfl m6 ⟨_, rfl⟩)) (pa_cons (pv 0) (pa_cons (pe_glob (v := .int 6) rfl m6 ⟨_, rfl⟩) pa_nil)))))), ?_⟩
    refine ⟨_, rfl, a, _, rfl, .inl hS, _, _, rfl, rfl, _, rfl, ?_⟩
    rw [List.length_map]
    have fin : ∀ H' : Hp, Same H H' → Q (.bl (within (-6) 6 ns)) H' → Q (.bl (within (-6) 6 ns)) H' := fun _ _ q => q
    cases e1 : decide (1 ≤ (ns.length : Int)) with
    | false =>
      refine iteF ?_
      refine ⟨_, rfl, ?_⟩
      have q := k H (Same.refl H)
      unfold coefOk at q
      rw [e1] at q
      exact q
    | true =>
      refine iteT ⟨_, _, rfl, rfl, _, rfl, ?_⟩
      cases e2 : decide ((ns.length : Int) ≤ 4) with
      | false =>
        have q := k H (Same.refl H)
        unfold coefOk at q
        rw [e1, e2] at q
        exact q
      | true =>
        refine ⟨_, rfl, _, rfl, -6, 6, a, ns, rfl, hS, hlen, fun H' s1 => ?_⟩
        have q := k H' s1
        unfold coefOk at q
        rw [e1, e2] at q
        exact q
end
structure BiV (mg : Str → Option Value) : Prop where
  high : ∃ t, mg "HIGHEST_ELEMENT" = some (.int 12 t)
def spVA (K : PySem.W.Frag) : Sp := fun vs H Q _ => ∃ (a b : Addr) (ns ms : List Int), vs = [.ref a, .ref b] ∧ Ints K H a ns ∧ Ints K H b ms ∧ ms.length ≤ 1000 ∧ ∀ H' : Hp, Same H H' → Q (.bl (vecOk ns ms)) H'
section
variable {P : Program} {w : World} {K : PySem.W.Frag} {mg : Str → Option Value} {base : Heap}
theorem scVA : FnScope ["coefficients", "x"] ["coefficients", "x"] (defScope sVA) := ⟨rfl, rfl, rfl, by decide +kernel, rfl, by decide +kernel, by decide +kernel⟩
theorem ok_va {f fA : Addr} {fd fdA : FuncData} (F : At K mg "vector_allowed" sVA ["coefficients", "x"] f fd) (T : BiA mg) (T2 : BiV mg) (FA : At K mg "all_between" sAB ["lowest", "numbers", "highest"] fA fdA) :
    FnOk P w K mg base CX0 2 f fd ["coefficients", "x"] (spVA K) := by
  have GA : FnOk P w K mg base CX0 1 fA fdA ["lowest", "numbers", "highest"] (spAB K) := ok_ab FA T
  obtain ⟨t, m⟩ := T2.high
  refine F.fn.ok scVA (fun vs H Q E h => ?_) (fun cdv A outer s H vs Q E hr h => ?_)
  · obtain ⟨a, b, ns, ms, rfl, _⟩ := h
    rfl
  · obtain ⟨a, b, ns, ms, rfl, hS, hS2, hlen, k⟩ := h
    refine ⟨_, pss_one (ps_ret (pe_and (pe_cmp (pc_eqI (pe_callB call_len_seq (by rfl) T.len PySem.boot_len (pa_cons (pv 1) pa_nil)) (pe_callB call_len_seq (by rfl) T.len PySem.boot_len (pa_cons (pv 0) pa_nil))) rfl)
      (pe_one (pe_call GA hr rfl FA.mg FA.fn.kp FA.bi .nil pass0 (pa_cons pe_int (pa_cons (pv 1) (pa_cons (pe_glob (v := .int 12) rfl m ⟨_, rfl⟩) pa_nil))))))), ?_⟩
    refine ⟨_, rfl, b, _, rfl, .inl hS2, _, rfl, a, _, rfl, .inl hS, _, _, rfl, rfl, _, rfl, ?_⟩
    rw [List.length_map, List.length_map]
    show (if decide ((ms.length : Int) = (ns.length : Int)) = true then _ else _)
    cases e1 : decide ((ms.length : Int) = (ns.length : Int)) with
    | false =>
      have q := k H (Same.refl H)
      unfold vecOk at q
      rw [e1] at q
      exact iteF q
    | true =>
      refine iteT ⟨_, rfl, 0, 12, b, ms, rfl, hS2, hlen, fun H' s1 => ?_⟩
      have q := k H' s1
      unfold vecOk at q
      rw [e1] at q
      exact q
end
structure BiF (mg : Str → Option Value) : Prop where
  sum : mg "sum" = none
  zip : mg "zip" = none
def spFV (K : PySem.W.Frag) : Sp := fun vs H Q _ => ∃ (a b : Addr) (ns ms : List Int), vs = [.ref a, .ref b] ∧ Ints K H a ns ∧ Ints K H b ms ∧ ns.length ≤ 1000 ∧ (∀ n ∈ ns, -6 ≤ n ∧ n ≤ 6) ∧ ∀ H' : Hp, Same H H' → Q (.int (formI ns ms)) H'
section
variable {P : Program} {w : World} {K : PySem.W.Frag} {mg : Str → Option Value} {base : Heap}
theorem scFV : FnScope ["coefficients", "vector", "coefficient", "value"] ["coefficients", "vector"] (defScope sFV) := ⟨rfl, rfl, rfl, by decide +kernel, rfl, by decide +kernel, by decide +kernel⟩
theorem ok_fv {f : Addr} {fd : FuncData} (F : At K mg "form_value" sFV ["coefficients", "vector"] f fd) (T : BiF mg) :
    FnOk P w K mg base CX0 1 f fd ["coefficients", "vector"] (spFV K) := by
  refine F.fn.ok scFV (fun vs H Q E h => ?_) (fun cdv A outer s H vs Q E hr h => ?_)
  · obtain ⟨a, b, ns, ms, rfl, _⟩ := h
    rfl
  · obtain ⟨a, b, ns, ms, rfl, hS, hS2, hlen, hb, k⟩ := h
    refine ⟨_, pss_one (ps_ret (pe_callB (cr_sum rfl) (by rfl) T.sum (by decide +kernel) (pa_cons (pe_lc (own := [("coefficient", 2), ("value", 3)]) (g := gTup K 2 (gCons (gName 2) (gCons (gName 3) gNil))) (tt := tYes) rfl scFV.nd (pi_zip (by rfl) T.zip (pa_cons (pv 0) (pa_cons (pv 1) pa_nil)))
      (blkOk_by (own := [("coefficient", 2), ("value", 3)]) (N := ["coefficients", "vector", "coefficient", "value"]) (sc := defScope sFV) (by decide +kernel)) (fun _ _ _ _ _ => pg_tup rfl (pgs_cons (pg_name (i := 2) scFV.nd rfl (Or.inl rfl)) (pgs_cons (pg_name (i := 3) scFV.nd rfl (Or.inl rfl)) pgs_nil))) (fun _ _ _ _ _ => pts_nil)
      (fun _ _ _ _ _ => pe_op op_mul (pv 2) (pv 3))) pa_nil))), ?_⟩
    refine ⟨_, rfl, _, rfl, a, b, _, _, rfl, hS, hS2, fun D hD => lc_it (walk_zip (K := K) (a := a) (b := b) (xs := ns.map V.int) (ys := ms.map V.int) rfl) (fun i H' => Same H H' ∧ H' D = some (.lst (((ns.zip ms).take i).map fun p => V.int (p.1 * p.2)))) ?_ ?_ ?_ ?_⟩
    · exact ⟨Same.new (Same.refl H) hD, upd_same⟩
    · rintro i H' _ ⟨s1, _⟩
      exact ⟨s1.seq hS, s1.seq hS2⟩
    · rintro i x H1 H2 hi ⟨s1, hd⟩ ⟨Z, u, v, rfl, hZ, rfl, hu, hv⟩
      obtain ⟨z1, hz1, rfl⟩ := map_at hu
      obtain ⟨z2, hz2, rfl⟩ := map_at hv
      have hz : (ns.zip ms)[i]? = some (z1, z2) := List.getElem?_zip_eq_some.mpr ⟨hz1, hz2⟩
      have hb1 := hb z1 (List.mem_of_getElem? hz1)
      refine ⟨Z, _, rfl, SqT.of upd_same, rfl, _, _, rfl, _, _, rfl, rfl, rfl, _, rfl, _, rfl, _, _, rfl, rfl, .inl ⟨by omega, by omega⟩, ?_⟩
      refine lc_put (f := fun p : Int × Int => V.int (p.1 * p.2)) (Same.new s1 hZ) hD ?_ hz rfl ?_
      · rw [upd_ne (ne_of_none hd hZ)]
        exact hd
      · rw [List.length_zip]
        omega
    · rintro H' ⟨s1, hd⟩
      refine ⟨D, (ns.zip ms).map fun p => p.1 * p.2, rfl, SqL.of ?_, ?_⟩
      · rw [hd, List.length_map, List.length_map, List.take_of_length_le (by rw [List.length_zip]; exact Nat.le_refl _), List.map_map]
        rfl
      · exact k H' s1
end
def spAA (K : PySem.W.Frag) : Sp := fun vs H Q _ => ∃ (a b : Addr) (ns ms : List Int), vs = [.ref a, .ref b] ∧ Ints K H a ns ∧ Ints K H b ms ∧ ns.length ≤ 1000 ∧ ms.length ≤ 1000 ∧ ∀ H' : Hp, Same H H' → Q (.bl (coefOk ns && vecOk ns ms)) H'
section
variable {P : Program} {w : World} {K : PySem.W.Frag} {mg : Str → Option Value} {base : Heap}
theorem scAA : FnScope ["coefficients", "x"] ["coefficients", "x"] (defScope sAA) := ⟨rfl, rfl, rfl, by decide +kernel, rfl, by decide +kernel, by decide +kernel⟩
theorem ok_aa {f fA fC fV : Addr} {fd fdA fdC fdV : FuncData} (F : At K mg "arguments_allowed" sAA ["coefficients", "x"] f fd) (T : BiA mg) (T2 : BiV mg)
    (FA : At K mg "all_between" sAB ["lowest", "numbers", "highest"] fA fdA) (FC : At K mg "coefficients_allowed" sCA ["coefficients"] fC fdC) (FV : At K mg "vector_allowed" sVA ["coefficients", "x"] fV fdV) :
    FnOk P w K mg base CX0 3 f fd ["coefficients", "x"] (spAA K) := by
  have GC : FnOk P w K mg base CX0 2 fC fdC ["coefficients"] (spCA K) := ok_ca FC T FA
  have GV : FnOk P w K mg base CX0 2 fV fdV ["coefficients", "x"] (spVA K) := ok_va FV T T2 FA
  refine F.fn.ok scAA (fun vs H Q E h => ?_) (fun cdv A outer s H vs Q E hr h => ?_)
  · obtain ⟨a, b, ns, ms, rfl, _⟩ := h
    rfl
  · obtain ⟨a, b, ns, ms, rfl, hS, hS2, hlen, hlen2, k⟩ := h
    refine ⟨_, pss_one (ps_ret (pe_and (pe_call GC hr rfl FC.mg FC.fn.kp FC.bi .nil pass0 (pa_cons (pv 0) pa_nil)) (pe_one (pe_call GV hr rfl FV.mg FV.fn.kp FV.bi .nil pass0 (pa_cons (pv 0) (pa_cons (pv 1) pa_nil)))))), ?_⟩
    refine ⟨_, rfl, a, ns, rfl, hS, hlen, fun H1 s1 => ⟨_, rfl, ?_⟩⟩
    cases e1 : coefOk ns with
    | false =>
      have q := k H1 s1
      rw [e1] at q
      exact iteF q
    | true =>
      refine iteT ⟨_, rfl, _, rfl, a, b, ns, ms, rfl, s1.seq hS, s1.seq hS2, hlen2, fun H2 s2 => ?_⟩
      have q := k H2 (s1.trans s2)
      rw [e1] at q
      exact q
end
def spEv (K : PySem.W.Frag) : Sp := fun vs H Q _ => ∃ (a b : Addr) (ns ms : List Int), vs = [.ref a, .ref b] ∧ Ints K H a ns ∧ Ints K H b ms ∧ ns.length ≤ 1000 ∧ ms.length ≤ 1000 ∧ ∀ (H' : Hp) (p : Addr), H' p = some (.lst ((evalI ns ms).map V.int)) → Q (.ref p) H'
section
variable {P : Program} {w : World} {K : PySem.W.Frag} {mg : Str → Option Value} {base : Heap}
theorem scEv : FnScope ["coefficients", "x", "value"] ["coefficients", "x"] (defScope sEv) := ⟨rfl, rfl, rfl, by decide +kernel, rfl, by decide +kernel, by decide +kernel⟩
theorem ok_ev {f fG fA fC fV fF : Addr} {fd fdG fdA fdC fdV fdF : FuncData} (F : At K mg "evaluate" sEv ["coefficients", "x"] f fd) (T : BiA mg) (T2 : BiV mg) (T3 : BiF mg) (FG : At K mg "arguments_allowed" sAA ["coefficients", "x"] fG fdG)
    (FA : At K mg "all_between" sAB ["lowest", "numbers", "highest"] fA fdA) (FC : At K mg "coefficients_allowed" sCA ["coefficients"] fC fdC) (FV : At K mg "vector_allowed" sVA ["coefficients", "x"] fV fdV) (FF : At K mg "form_value" sFV ["coefficients", "vector"] fF fdF) :
    FnOk P w K mg base CX0 4 f fd ["coefficients", "x"] (spEv K) := by
  have GG : FnOk P w K mg base CX0 3 fG fdG ["coefficients", "x"] (spAA K) := ok_aa FG T T2 FA FC FV
  have GF : FnOk P w K mg base CX0 1 fF fdF ["coefficients", "vector"] (spFV K) := ok_fv FF T3
  obtain ⟨t, m⟩ := T.outside
  refine F.fn.ok scEv (fun vs H Q E h => ?_) (fun cdv A outer s H vs Q E hr h => ?_)
  · obtain ⟨a, b, ns, ms, rfl, _⟩ := h
    rfl
  · obtain ⟨a, b, ns, ms, rfl, hS, hS2, hlen, hlen2, k⟩ := h
    have hr1 : Room 1 _ := hr.mono (by decide)
    refine ⟨_, pss_cons (ps_if (pt_not (pt_val (pe_call GG hr rfl FG.mg FG.fn.kp FG.bi .nil pass0 (pa_cons (pv 0) (pa_cons (pv 1) pa_nil)))))
        (pss_one (ps_ret (pe_lst (pa_cons (pe_glob (v := .int (-22)) rfl m ⟨_, rfl⟩) pa_nil)))) pss_nil)
      (pss_cons (ps_set (i := 2) scEv.nd rfl (Or.inl rfl) (pe_call GF hr1 rfl FF.mg FF.fn.kp FF.bi .nil pass0 (pa_cons (pv 0) (pa_cons (pv 1) pa_nil))))
      (pss_one (ps_ret (pe_lst (pa_cons (pe_ifExp (pt_cmpR op_eq (pv 2) pe_int (nomark _)) pe_int pe_int) (pa_cons (pv 2) pa_nil)))))), ?_⟩
    have no : ∀ H' : Hp, ¬ (coefOk ns = true ∧ vecOk ns ms = true) → ∀ p, H' p = none → Q (.ref p) (upd H' p (.lst [V.int (-22)])) := fun H' n p hp => by
      have q := k (upd H' p (.lst [V.int (-22)])) p
      unfold evalI at q
      rw [if_neg n] at q
      exact q (by rw [upd_same]; rfl)
    refine ⟨_, rfl, _, rfl, a, b, ns, ms, rfl, hS, hS2, hlen, hlen2, fun H2 s12 => ⟨_, rfl, ?_⟩⟩
    cases e1 : coefOk ns with
    | false => exact iteT ⟨by decide, fun p hp => no H2 (by rw [e1]; simp) p hp⟩
    | true =>
      cases e2 : vecOk ns ms with
      | false => exact iteT ⟨by decide, fun p hp => no H2 (by rw [e2]; simp) p hp⟩
      | true =>
        have hb : ∀ n ∈ ns, -6 ≤ n ∧ n ≤ 6 := fun n hn => by
          unfold coefOk at e1
          rw [Bool.and_eq_true] at e1
          exact within_mem e1.2 hn
        refine iteF ⟨_, rfl, _, rfl, a, b, ns, ms, rfl, s12.seq hS, s12.seq hS2, hlen, hb, fun H3 s3 => ?_⟩
        refine ⟨_, rfl, rfl, _, rfl, ?_⟩
        show (if decide (V.int (formI ns ms) = V.int 0) = true then _ else _)
        rw [vint_eq]
        have q0 : ∀ p, H3 p = none → Q (.ref p) (upd H3 p (.lst [V.int (if formI ns ms = 0 then 1 else 0), V.int (formI ns ms)])) := fun p hp => by
          have q := k (upd H3 p (.lst [V.int (if formI ns ms = 0 then 1 else 0), V.int (formI ns ms)])) p
          have ee : evalI ns ms = [if formI ns ms = 0 then 1 else 0, formI ns ms] := if_pos ⟨e1, e2⟩
          rw [ee] at q
          exact q (by rw [upd_same]; rfl)
        by_cases z : formI ns ms = 0
        · rw [if_pos (decide_eq_true z)]
          rw [if_pos z] at q0
          exact ⟨_, rfl, (by show 2 ≤ sizeLine; decide), q0⟩
        · rw [if_neg (by rw [decide_eq_false z]; exact Bool.false_ne_true)]
          rw [if_neg z] at q0
          exact ⟨_, rfl, (by show 2 ≤ sizeLine; decide), q0⟩
end
theorem all_mk {P : Program} {w : World} {K : PySem.W.Frag} {h : Heap} {mg : Str → Option Value} {fa f1 f2 f3 f4 f5 f6 : Addr} (X : K.In h) (G : h.Ns mainGlobals mg) (hfa : mg "evaluate" = some (.ref fa))
    {od1 an1 : Option Addr} {sl1 : Array (Option Value)} {oc1 kV1 dc1 pm1 cd1 ct1 : Value}
    {od2 an2 : Option Addr} {sl2 : Array (Option Value)} {oc2 kV2 dc2 pm2 cd2 ct2 : Value}
    {od3 an3 : Option Addr} {sl3 : Array (Option Value)} {oc3 kV3 dc3 pm3 cd3 ct3 : Value}
    {od4 an4 : Option Addr} {sl4 : Array (Option Value)} {oc4 kV4 dc4 pm4 cd4 ct4 : Value}
    {od5 an5 : Option Addr} {sl5 : Array (Option Value)} {oc5 kV5 dc5 pm5 cd5 ct5 : Value}
    {od6 an6 : Option Addr} {sl6 : Array (Option Value)} {oc6 kV6 dc6 pm6 cd6 ct6 : Value}
    (a1 : PySem.W.nsIn K mainGlobals "evaluate" = some (some (.ref f1))) (l1 : K.lookup f1 = some ⟨oc1, od1, .func (PySem.W.fnOf "evaluate" "evaluate" (defArgs sEv) (defBody sEv) (defScope sEv) .none kV1 dc1 pm1 an1 cd1 ct1), sl1⟩) (c1 : PySem.W.codeIn K cd1 "evaluate" = true) (k1 : PySem.W.keepIn K (.ref f1) = true)
    (a2 : PySem.W.nsIn K mainGlobals "arguments_allowed" = some (some (.ref f2))) (l2 : K.lookup f2 = some ⟨oc2, od2, .func (PySem.W.fnOf "arguments_allowed" "arguments_allowed" (defArgs sAA) (defBody sAA) (defScope sAA) .none kV2 dc2 pm2 an2 cd2 ct2), sl2⟩) (c2 : PySem.W.codeIn K cd2 "arguments_allowed" = true) (k2 : PySem.W.keepIn K (.ref f2) = true)
    (a3 : PySem.W.nsIn K mainGlobals "coefficients_allowed" = some (some (.ref f3))) (l3 : K.lookup f3 = some ⟨oc3, od3, .func (PySem.W.fnOf "coefficients_allowed" "coefficients_allowed" (defArgs sCA) (defBody sCA) (defScope sCA) .none kV3 dc3 pm3 an3 cd3 ct3), sl3⟩) (c3 : PySem.W.codeIn K cd3 "coefficients_allowed" = true) (k3 : PySem.W.keepIn K (.ref f3) = true)
    (a4 : PySem.W.nsIn K mainGlobals "vector_allowed" = some (some (.ref f4))) (l4 : K.lookup f4 = some ⟨oc4, od4, .func (PySem.W.fnOf "vector_allowed" "vector_allowed" (defArgs sVA) (defBody sVA) (defScope sVA) .none kV4 dc4 pm4 an4 cd4 ct4), sl4⟩) (c4 : PySem.W.codeIn K cd4 "vector_allowed" = true) (k4 : PySem.W.keepIn K (.ref f4) = true)
    (a5 : PySem.W.nsIn K mainGlobals "all_between" = some (some (.ref f5))) (l5 : K.lookup f5 = some ⟨oc5, od5, .func (PySem.W.fnOf "all_between" "all_between" (defArgs sAB) (defBody sAB) (defScope sAB) .none kV5 dc5 pm5 an5 cd5 ct5), sl5⟩) (c5 : PySem.W.codeIn K cd5 "all_between" = true) (k5 : PySem.W.keepIn K (.ref f5) = true)
    (a6 : PySem.W.nsIn K mainGlobals "form_value" = some (some (.ref f6))) (l6 : K.lookup f6 = some ⟨oc6, od6, .func (PySem.W.fnOf "form_value" "form_value" (defArgs sFV) (defBody sFV) (defScope sFV) .none kV6 dc6 pm6 an6 cd6 ct6), sl6⟩) (c6 : PySem.W.codeIn K cd6 "form_value" = true) (k6 : PySem.W.keepIn K (.ref f6) = true)
    (z0 : PySem.W.nsIn K mainGlobals "len" = some none)
    (z1 : PySem.W.nsIn K mainGlobals "all" = some none)
    {y2 : Tok} (z2 : PySem.W.nsIn K mainGlobals "MOST_COEFFICIENTS" = some (some (.int (4) y2)))
    {y3 : Tok} (z3 : PySem.W.nsIn K mainGlobals "LARGEST_COEFFICIENT" = some (some (.int (6) y3)))
    {y4 : Tok} (z4 : PySem.W.nsIn K mainGlobals "OUTSIDE_LIMITS" = some (some (.int (-22) y4)))
    {y5 : Tok} (z5 : PySem.W.nsIn K mainGlobals "HIGHEST_ELEMENT" = some (some (.int (12) y5)))
    (z6 : PySem.W.nsIn K mainGlobals "sum" = some none)
    (z7 : PySem.W.nsIn K mainGlobals "zip" = some none) :
    ∃ fd : FuncData, (∀ (s : Shared) (us : List Value), us.length = (["coefficients", "x"] : List Str).length → BindsTo s fd ⟨us, []⟩ ((["coefficients", "x"] : List Str).zip us)) ∧ ∀ base : Heap, K.In base → base.Ns mainGlobals mg → FnOk P w K mg base CX0 4 fa fd ["coefficients", "x"] (spEv K) := by
  have e := hfa.symm.trans (PySem.W.mg_of X G a1)
  cases e
  have A1 := at_mk (st := sEv) (ps := ["coefficients", "x"]) X G a1 l1 c1 k1 fun _ _ _ _ _ _ us hl => match us, hl with | [_, _], _ => rfl
  have A2 := at_mk (st := sAA) (ps := ["coefficients", "x"]) X G a2 l2 c2 k2 fun _ _ _ _ _ _ us hl => match us, hl with | [_, _], _ => rfl
  have A3 := at_mk (st := sCA) (ps := ["coefficients"]) X G a3 l3 c3 k3 fun _ _ _ _ _ _ us hl => match us, hl with | [_], _ => rfl
  have A4 := at_mk (st := sVA) (ps := ["coefficients", "x"]) X G a4 l4 c4 k4 fun _ _ _ _ _ _ us hl => match us, hl with | [_, _], _ => rfl
  have A5 := at_mk (st := sAB) (ps := ["lowest", "numbers", "highest"]) X G a5 l5 c5 k5 fun _ _ _ _ _ _ us hl => match us, hl with | [_, _, _], _ => rfl
  have A6 := at_mk (st := sFV) (ps := ["coefficients", "vector"]) X G a6 l6 c6 k6 fun _ _ _ _ _ _ us hl => match us, hl with | [_, _], _ => rfl
  have T : BiA mg := ⟨PySem.W.mg_none_of X G z0, PySem.W.mg_none_of X G z1, ⟨_, PySem.W.mg_of X G z2⟩, ⟨_, PySem.W.mg_of X G z3⟩, ⟨_, PySem.W.mg_of X G z4⟩⟩
  have T2 : BiV mg := ⟨⟨_, PySem.W.mg_of X G z5⟩⟩
  have T3 : BiF mg := ⟨PySem.W.mg_none_of X G z6, PySem.W.mg_none_of X G z7⟩
  exact ⟨_, fun s us hu => match us, hu with | [_, _], _ => .of_eq rfl, fun base _ _ => ok_ev A1 T T2 T3 A2 A5 A3 A4 A6⟩
end LS
open PySem PySem.W PyProof.Rows
set_option maxRecDepth 100000 in
set_option maxHeartbeats 0 in
theorem PySem.Challenge.cw_leastsums_s02_evaluate_holds : PySem.Challenge.rw_leastsums_s02_evaluate.Holds := by
  w_on; k_headS; (case hw => exact ⟨[.list [], .list []], by decide +kernel, by decide +kernel⟩)
  k_fillS
  refine L2.walk_specK (r := PySem.Challenge.rw_leastsums_s02_evaluate) (k := 4) (CX := L2.CX0) (ps := ["coefficients", "x"]) (sp := LS.spEv) (by decide +kernel) rfl rfl ⟨rfl, by decide, by decide⟩ (fun w h Y => PySem.W.kIn_of Y) ?F ?S (fun _ _ _ _ z => z)
  case F =>
    intro w mg fa h Y KX G hmg
    refine' LS.all_mk KX G hmg ?a1 ?l1 ?c1 ?k1 ?a2 ?l2 ?c2 ?k2 ?a3 ?l3 ?c3 ?k3 ?a4 ?l4 ?c4 ?k4 ?a5 ?l5 ?c5 ?k5 ?a6 ?l6 ?c6 ?k6 ?z0 ?z1 ?z2 ?z3 ?z4 ?z5 ?z6 ?z7
    (case a1 => k_is); (case l1 => k_is); (case c1 => k_is); (case k1 => k_is)
    (case a2 => k_is); (case l2 => k_is); (case c2 => k_is); (case k2 => k_is)
    (case a3 => k_is); (case l3 => k_is); (case c3 => k_is); (case k3 => k_is)
    (case a4 => k_is); (case l4 => k_is); (case c4 => k_is); (case k4 => k_is)
    (case a5 => k_is); (case l5 => k_is); (case c5 => k_is); (case k5 => k_is)
    (case a6 => k_is); (case l6 => k_is); (case c6 => k_is); (case k6 => k_is)
    (case z0 => k_is)
    (case z1 => k_is)
    (case z2 => k_is)
    (case z3 => k_is)
    (case z4 => k_is)
    (case z5 => k_is)
    (case z6 => k_is)
    (case z7 => k_is)
  case S =>
    intro K H xs a hO hwi hask hx
    cases hx with
    | cons h1 h2 =>
      cases h2 with
      | cons h2 h3 =>
        cases h3
        cases h1 with
        | lst hs ha =>
          cases h2 with
          | lst hs2 ha2 =>
            have e := L2.ints_dw a.1 _ ha
            have e2 := L2.ints_dw a.2.1 _ ha2
            subst e e2
            have q : ((Codec.inLen 0 6 a.1 && a.1.all (Codec.inInt (-2147483648) 2147483647)) && ((Codec.inLen 0 6 a.2.1 && a.2.1.all (Codec.inInt 0 4294967295)) && true)) = true := hwi
            rw [Bool.and_eq_true, Bool.and_eq_true, Bool.and_eq_true, Bool.and_eq_true] at q
            have l1 := (Codec.inNat_iff.mp q.1.1).2
            have l2 := (Codec.inNat_iff.mp q.2.1.1).2
            have h0 : ∀ m ∈ a.2.1, 0 ≤ m := fun m hm => by
              have t := List.all_eq_true.mp q.2.1.2 m hm
              unfold Codec.inInt at t
              rw [Bool.and_eq_true, decide_eq_true_iff] at t
              exact t.1
            refine ⟨_, _, a.1, a.2.1, rfl, hs, hs2, by omega, by omega, fun H' p hp => ?_⟩
            rw [← LM.eval_spec h0] at hp
            exact .lst (L2.SqL.of hp) (L2.dw_ints _)
#print axioms PySem.Challenge.cw_leastsums_s02_evaluate_holds
