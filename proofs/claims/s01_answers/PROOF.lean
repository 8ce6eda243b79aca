import PyProof.Rows.All
import Wide.All
import OpenK.AllK
import Wide.FinOn
import Open.SpecLaws
import KE.OsGo
import KE.KSortTupG
import HandS.ForSpec
import HandS.SortKw
import HandS.Walk
import PySem.Challenge.RW_heldstill_s01_answers
set_option Elab.async false
set_option linter.all false
/-! ## HsMathA -/
namespace Hs
/-! ### sums -/
def absI (n : Int) : Int := if n < 0 then -n else n
theorem absI_nat (n : Int) : absI n = (n.natAbs : Int) := by
  unfold absI
  split <;> omega
def rowd (xs ys : List Int) : Int := ((xs.zip ys).map fun p => absI (p.1 - p.2)).sum
def seg (l : List Int) (i n : Nat) : List Int := (l.drop i).take n
theorem seg_length {l : List Int} {i n : Nat} (h : i + n ≤ l.length) : (seg l i n).length = n := by
  unfold seg
  rw [List.length_take, List.length_drop]
  omega
theorem seg_eq {l : List Int} {i n : Nat} (h : i + n ≤ l.length) : seg l i n = (List.range n).map fun k => l.getD (i + k) 0 := by
  apply List.ext_getElem?
  intro k
  unfold seg
  rw [List.getElem?_take, List.getElem?_drop, List.getElem?_map]
  by_cases hk : k < n
  · rw [if_pos hk, List.getElem?_range hk, List.getElem?_eq_getElem (by omega)]
    show _ = some (l.getD (i + k) 0)
    rw [List.getD_eq_getElem?_getD, List.getElem?_eq_getElem (by omega)]
    rfl
  · rw [if_neg hk, List.getElem?_eq_none (by rw [List.length_range]; omega)]
    rfl
theorem zip_maps {α : Type} (f g : α → Int) : ∀ l : List α, (l.map f).zip (l.map g) = l.map fun a => (f a, g a)
  | [] => rfl
  | a :: l => congrArg (List.cons (f a, g a)) (zip_maps f g l)
theorem rowd_map (f g : Nat → Int) (n : Nat) : rowd ((List.range n).map f) ((List.range n).map g) = ((List.range n).map fun k => absI (f k - g k)).sum := by
  unfold rowd
  rw [zip_maps, List.map_map]
  rfl
theorem absI_nonneg (n : Int) : 0 ≤ absI n := by
  unfold absI
  split <;> omega
theorem sum_nonneg : ∀ {l : List Int}, (∀ x ∈ l, 0 ≤ x) → 0 ≤ l.sum
  | [], _ => Int.le_refl 0
  | x :: l, h => by
    rw [List.sum_cons]
    have h1 := h x List.mem_cons_self
    have h2 := sum_nonneg (l := l) fun y hy => h y (List.mem_cons_of_mem _ hy)
    omega
theorem rowd_nonneg (xs ys : List Int) : 0 ≤ rowd xs ys := sum_nonneg fun x hx => by
  obtain ⟨p, _, rfl⟩ := List.mem_map.mp hx
  exact absI_nonneg _
theorem sum_le {c : Int} : ∀ {l : List Int}, (∀ x ∈ l, x ≤ c) → l.sum ≤ c * l.length
  | [], _ => by simp
  | x :: l, h => by
    rw [List.sum_cons, List.length_cons]
    have h1 := h x List.mem_cons_self
    have h2 := sum_le (l := l) fun y hy => h y (List.mem_cons_of_mem _ hy)
    have e : c * ((l.length + 1 : Nat) : Int) = c * l.length + c := by
      rw [Int.natCast_succ, Int.mul_add, Int.mul_one]
    omega
theorem sum_cast : ∀ l : List Nat, ((l.sum : Nat) : Int) = (l.map fun n : Nat => (n : Int)).sum
  | [] => rfl
  | x :: l => by
    rw [List.sum_cons, List.map_cons, List.sum_cons, ← sum_cast l]
    omega
theorem sum_flatMap {α : Type} (f : α → List Int) : ∀ l : List α, (l.flatMap f).sum = (l.map fun a => (f a).sum).sum
  | [] => rfl
  | a :: l => by
    rw [List.flatMap_cons, List.sum_append, List.map_cons, List.sum_cons, sum_flatMap f l]
/-! ### what a shift costs -/
/-- where the row that is moved begins -/
def moved (w r : Nat) (d : Int × Int) (y : Nat) : Nat := (((y * w + r : Nat) : Int) + (d.2 * w + d.1)).toNat
def rowCost (w r : Nat) (a b : List Int) (d : Int × Int) (y : Nat) : Int := rowd (seg a (y * w + r) (w - 2 * r)) (seg b (moved w r d y) (w - 2 * r))
def full (w h r : Nat) (a b : List Int) (d : Int × Int) : Int := ((List.range (h - 2 * r)).map fun j => rowCost w r a b d (r + j)).sum
def part (w r : Nat) (a b : List Int) (d : Int × Int) (n : Nat) : Int := ((List.range n).map fun j => rowCost w r a b d (r + j)).sum
theorem part_succ (w r : Nat) (a b : List Int) (d : Int × Int) (n : Nat) : part w r a b d (n + 1) = part w r a b d n + rowCost w r a b d (r + n) := by
  unfold part
  rw [List.range_succ, List.map_append, List.sum_append]
  simp
theorem part_le {w r : Nat} {a b : List Int} {d : Int × Int} : ∀ {n m : Nat}, n ≤ m → part w r a b d n ≤ part w r a b d m
  | n, m, h => by
    induction m with
    | zero =>
      have : n = 0 := by omega
      subst this
      exact Int.le_refl _
    | succ m ih =>
      by_cases e : n = m + 1
      · subst e
        exact Int.le_refl _
      · have h1 := ih (by omega)
        have h2 : 0 ≤ rowCost w r a b d (r + m) := rowd_nonneg _ _
        rw [part_succ]
        omega
theorem full_nonneg (w h r : Nat) (a b : List Int) (d : Int × Int) : 0 ≤ full w h r a b d := part_le (n := 0) (m := h - 2 * r) (Nat.zero_le _)
/-- a picture's list -/
structure PicOk (w h : Nat) (l : List Int) : Prop where
  len : l.length = w * h
  lo : ∀ x ∈ l, 0 ≤ x
  hi : ∀ x ∈ l, x ≤ 255
abbrev nats (l : List Int) : List Nat := l.map Int.toNat
def toPic (w h : Nat) (l : List Int) : Kh288.Pic := ⟨w, h, nats l⟩
theorem getD_nats (l : List Int) (k : Nat) : (nats l).getD k 0 = (l.getD k 0).toNat := by
  rw [List.getD_eq_getElem?_getD, List.getD_eq_getElem?_getD, List.getElem?_map]
  cases l[k]? <;> rfl
theorem getD_bounds {w h : Nat} {l : List Int} (p : PicOk w h l) (k : Nat) : 0 ≤ l.getD k 0 ∧ l.getD k 0 ≤ 255 := by
  rw [List.getD_eq_getElem?_getD]
  cases e : l[k]? with
  | none => exact ⟨Int.le_refl 0, by decide⟩
  | some x =>
    have hm := List.mem_of_getElem? e
    exact ⟨p.lo x hm, p.hi x hm⟩
theorem at_in {w h : Nat} {l : List Int} (p : PicOk w h l) {x y : Int} (h1 : 0 ≤ x) (h2 : x < w) (h3 : 0 ≤ y) (h4 : y < h) : (((toPic w h l).at_ x y : Nat) : Int) = l.getD (y.toNat * w + x.toNat) 0 := by
  unfold Kh288.Pic.at_ toPic
  rw [if_pos ⟨h1, h2, h3, h4⟩]
  show (((nats l).getD (y.toNat * w + x.toNat) 0 : Nat) : Int) = _
  rw [getD_nats, Int.toNat_of_nonneg (getD_bounds p _).1]
/-- a row fits -/
theorem row_fits {w h x y n : Nat} (hx : x + n ≤ w) (hy : y < h) : y * w + x + n ≤ w * h := by
  have h1 : (y + 1) * w ≤ h * w := Nat.mul_le_mul_right w (by omega)
  rw [Nat.succ_mul, Nat.mul_comm h w] at h1
  omega
theorem moved_eq {w r : Nat} {d : Int × Int} {y : Nat} {x' y' : Nat} (hx : (x' : Int) = r + d.1) (hy : (y' : Int) = y + d.2) : moved w r d y = y' * w + x' := by
  unfold moved
  have e : (((y * w + r : Nat) : Int) + (d.2 * w + d.1)) = ((y' * w + x' : Nat) : Int) := by
    rw [Int.natCast_add, Int.natCast_add, Int.natCast_mul, Int.natCast_mul, hx, hy, Int.add_mul]
    omega
  rw [e, Int.toNat_natCast]
theorem rowCost_eq {w h r : Nat} {a b : List Int} {d : Int × Int} (pa : PicOk w h a) (pb : PicOk w h b) (hw : 2 * r + 1 ≤ w) (hh : 2 * r + 1 ≤ h) (h1 : d.1.natAbs ≤ r) (h2 : d.2.natAbs ≤ r) {j : Nat} (hj : j < h - 2 * r) :
    rowCost w r a b d (r + j) = ((List.range (w - 2 * r)).map fun i => ((((((toPic w h a).at_ ((r + i : Nat) : Int) ((r + j : Nat) : Int) : Nat) : Int) - (((toPic w h b).at_ (((r + i : Nat) : Int) + d.1) (((r + j : Nat) : Int) + d.2) : Nat) : Int)).natAbs : Nat) : Int)).sum := by
  have hx : (((r + d.1).toNat : Nat) : Int) = r + d.1 := Int.toNat_of_nonneg (by omega)
  have hy : ((((r + j : Nat) : Int) + d.2).toNat : Int) = ((r + j : Nat) : Int) + d.2 := Int.toNat_of_nonneg (by omega)
  unfold rowCost
  rw [moved_eq hx hy]
  have f1 : (r + j) * w + r + (w - 2 * r) ≤ a.length := by
    rw [pa.len]
    exact row_fits (by omega) (by omega)
  have f2 : (((r + j : Nat) : Int) + d.2).toNat * w + ((r : Int) + d.1).toNat + (w - 2 * r) ≤ b.length := by
    rw [pb.len]
    exact row_fits (by omega) (by omega)
  rw [seg_eq f1, seg_eq f2, rowd_map]
  refine congrArg List.sum (List.map_congr_left fun i hi => ?_)
  have hi' : i < w - 2 * r := List.mem_range.mp hi
  rw [at_in pa (by omega) (by omega) (by omega) (by omega), at_in pb (by omega) (by omega) (by omega) (by omega), absI_nat]
  have e1 : ((r + j : Nat) : Int).toNat * w + ((r + i : Nat) : Int).toNat = (r + j) * w + r + i := by
    rw [Int.toNat_natCast, Int.toNat_natCast, Nat.add_assoc ((r + j) * w)]
  have e2 : (((r + j : Nat) : Int) + d.2).toNat * w + (((r + i : Nat) : Int) + d.1).toNat = (((r + j : Nat) : Int) + d.2).toNat * w + ((r : Int) + d.1).toNat + i := by
    have : (((r + i : Nat) : Int) + d.1).toNat = ((r : Int) + d.1).toNat + i := by omega
    rw [this, Nat.add_assoc]
  rw [e1, e2]
theorem full_eq {w h r : Nat} {a b : List Int} {d : Int × Int} (pa : PicOk w h a) (pb : PicOk w h b) (hw : 2 * r + 1 ≤ w) (hh : 2 * r + 1 ≤ h) (h1 : d.1.natAbs ≤ r) (h2 : d.2.natAbs ≤ r) :
    full w h r a b d = ((Kh288.cost (toPic w h a) (toPic w h b) r d : Nat) : Int) := by
  unfold Kh288.cost Kh288.middle
  rw [sum_cast, List.map_map, List.map_flatMap, sum_flatMap]
  refine congrArg List.sum (List.map_congr_left fun j hj => ?_)
  rw [rowCost_eq pa pb hw hh h1 h2 (List.mem_range.mp hj), List.map_map]
  rfl
theorem rowCost_le {w h r : Nat} {a b : List Int} {d : Int × Int} (pa : PicOk w h a) (pb : PicOk w h b) (y : Nat) : rowCost w r a b d y ≤ 255 * (w - 2 * r : Nat) := by
  unfold rowCost rowd
  have q : ∀ x ∈ ((seg a (y * w + r) (w - 2 * r)).zip (seg b (moved w r d y) (w - 2 * r))).map (fun p => absI (p.1 - p.2)), x ≤ 255 := fun x hx => by
    obtain ⟨⟨u, v⟩, hp, rfl⟩ := List.mem_map.mp hx
    obtain ⟨m1, m2⟩ := List.of_mem_zip hp
    have m1' : u ∈ a := List.mem_of_mem_drop (List.mem_of_mem_take m1)
    have m2' : v ∈ b := List.mem_of_mem_drop (List.mem_of_mem_take m2)
    have a1 := pa.lo u m1'
    have a2 := pa.hi u m1'
    have b1 := pb.lo v m2'
    have b2 := pb.hi v m2'
    show absI (u - v) ≤ 255
    unfold absI
    split <;> omega
  have s := sum_le q
  have l : (((seg a (y * w + r) (w - 2 * r)).zip (seg b (moved w r d y) (w - 2 * r))).map (fun p => absI (p.1 - p.2))).length ≤ w - 2 * r := by
    rw [List.length_map, List.length_zip]
    have : (seg a (y * w + r) (w - 2 * r)).length ≤ w - 2 * r := by
      unfold seg
      rw [List.length_take]
      omega
    omega
  omega
theorem part_bound {w h r : Nat} {a b : List Int} {d : Int × Int} (pa : PicOk w h a) (pb : PicOk w h b) : ∀ n : Nat, part w r a b d n ≤ 255 * ((n * (w - 2 * r) : Nat) : Int)
  | 0 => by
    show (0 : Int) ≤ _
    rw [Nat.zero_mul]
    decide
  | n + 1 => by
    rw [part_succ]
    have h1 := part_bound (r := r) (d := d) pa pb n
    have h2 := rowCost_le (r := r) (d := d) pa pb (r + n)
    rw [Nat.succ_mul, Int.natCast_add]
    omega
theorem full_lt {w h r : Nat} {a b : List Int} {d : Int × Int} (pa : PicOk w h a) (pb : PicOk w h b) : full w h r a b d < 255 * (a.length : Int) + 1 := by
  have h1 : full w h r a b d ≤ 255 * (((h - 2 * r) * (w - 2 * r) : Nat) : Int) := part_bound pa pb _
  have h2 : (h - 2 * r) * (w - 2 * r) ≤ h * w := Nat.mul_le_mul (by omega) (by omega)
  rw [pa.len, Nat.mul_comm w h]
  omega
end Hs

/-! ## HsMathB -/
namespace Hs
/-! ### the order of the shifts -/
abbrev Sh := Int × Int
def far (d : Sh) : Int := d.1 * d.1 + d.2 * d.2
def RLe (x y : Sh) : Prop := far x < far y ∨ (far x = far y ∧ (x.2 < y.2 ∨ (x.2 = y.2 ∧ x.1 ≤ y.1)))
def Bef (x y : Nat × Sh) : Prop := x.1 < y.1 ∨ (x.1 = y.1 ∧ (far x.2 < far y.2 ∨ (far x.2 = far y.2 ∧ (x.2.2 < y.2.2 ∨ (x.2.2 = y.2.2 ∧ x.2.1 < y.2.1)))))
theorem before_iff (x y : Nat × Sh) : Kh288.before x y = true ↔ Bef x y := by
  unfold Kh288.before Bef
  show (decide (x.1 < y.1) || (x.1 == y.1 && (decide (far x.2 < far y.2) || (far x.2 == far y.2 && (decide (x.2.2 < y.2.2) || (x.2.2 == y.2.2 && decide (x.2.1 < y.2.1))))))) = true ↔ _
  simp only [Bool.or_eq_true, Bool.and_eq_true, decide_eq_true_eq, beq_iff_eq]
theorem Bef.irrefl (x : Nat × Sh) : ¬ Bef x x := by
  unfold Bef
  omega
theorem Bef.trans {x y z : Nat × Sh} (h1 : Bef x y) (h2 : Bef y z) : Bef x z := by
  unfold Bef at *
  omega
theorem Bef.total {x y : Nat × Sh} (h1 : ¬ Bef x y) (h2 : ¬ Bef y x) : x = y := by
  unfold Bef at *
  obtain ⟨a, b, c⟩ := x
  obtain ⟨a', b', c'⟩ := y
  dsimp only at *
  have e1 : a = a' := by omega
  have e2 : b = b' := by omega
  have e3 : c = c' := by omega
  rw [e1, e2, e3]
/-- the least of some: m -/
structure Least (c : Sh → Nat) (l : List Sh) (m : Nat × Sh) : Prop where
  mem : m.2 ∈ l
  cost : m.1 = c m.2
  least : ∀ d ∈ l, ¬ Bef (c d, d) m
theorem Least.uniq {c : Sh → Nat} {l l' : List Sh} {m m' : Nat × Sh} (h : Least c l m) (h' : Least c l' m') (e : ∀ d, d ∈ l ↔ d ∈ l') : m = m' := by
  have a1 := h.least m'.2 ((e _).mpr h'.mem)
  have a2 := h'.least m.2 ((e _).mp h.mem)
  rw [← h'.cost] at a1
  rw [← h.cost] at a2
  exact Bef.total a2 a1
/-- the specification's fold -/
theorem spec_fold (c : Sh → Nat) : ∀ (l : List Sh) (pre : List Sh) (m : Nat × Sh), Least c pre m →
    Least c (pre ++ l) ((l.map fun d => (c d, d)).foldl (fun x y => if Kh288.before y x then y else x) m)
  | [], pre, m, h => by
    rw [List.append_nil]
    exact h
  | d :: l, pre, m, h => by
    rw [List.map_cons, List.foldl_cons]
    have e : pre ++ d :: l = (pre ++ [d]) ++ l := by rw [List.append_assoc]; rfl
    rw [e]
    refine spec_fold c l (pre ++ [d]) _ ?_
    by_cases hb : Kh288.before (c d, d) m = true
    · rw [if_pos hb]
      have hb' := (before_iff _ _).mp hb
      refine ⟨List.mem_append_right _ List.mem_cons_self, rfl, fun x hx => ?_⟩
      rcases List.mem_append.mp hx with hx | hx
      · exact fun q => h.least x hx (q.trans hb')
      · rw [List.mem_singleton.mp hx]
        exact Bef.irrefl _
    · rw [if_neg hb]
      refine ⟨List.mem_append_left _ h.mem, h.cost, fun x hx => ?_⟩
      rcases List.mem_append.mp hx with hx | hx
      · exact h.least x hx
      · rw [List.mem_singleton.mp hx]
        exact fun q => hb ((before_iff _ _).mpr q)
/-- the program's fold, over shifts in their order -/
def pick (c : Sh → Int) (s : Int × Sh) (d : Sh) : Int × Sh := if c d < s.1 then (c d, d) else s
theorem pick_fold (c : Sh → Nat) : ∀ (l pre : List Sh) (m : Nat × Sh), Least c pre m → (pre ++ l).Pairwise RLe →
    ∃ m', Least c (pre ++ l) m' ∧ l.foldl (pick fun d => (c d : Int)) ((m.1 : Int), m.2) = ((m'.1 : Int), m'.2)
  | [], pre, m, h, _ => ⟨m, by rw [List.append_nil]; exact h, rfl⟩
  | d :: l, pre, m, h, hp => by
    have e : pre ++ d :: l = (pre ++ [d]) ++ l := by rw [List.append_assoc]; rfl
    rw [List.foldl_cons]
    have hr : ∀ x ∈ pre, RLe x d := fun x hx => (List.pairwise_append.mp hp).2.2 x hx d List.mem_cons_self
    rw [e] at hp ⊢
    by_cases hc : c d < m.1
    · have e1 : pick (fun d => (c d : Int)) ((m.1 : Int), m.2) d = (((c d : Nat) : Int), d) := if_pos (show (c d : Int) < (m.1 : Int) by omega)
      rw [e1]
      refine pick_fold c l (pre ++ [d]) (c d, d) ⟨List.mem_append_right _ List.mem_cons_self, rfl, fun x hx => ?_⟩ hp
      rcases List.mem_append.mp hx with hx | hx
      · intro q
        have := h.least x hx
        unfold Bef at this q
        dsimp only at this q
        omega
      · rw [List.mem_singleton.mp hx]
        exact Bef.irrefl _
    · have e1 : pick (fun d => (c d : Int)) ((m.1 : Int), m.2) d = ((m.1 : Int), m.2) := if_neg (show ¬ (c d : Int) < (m.1 : Int) by omega)
      rw [e1]
      refine pick_fold c l (pre ++ [d]) m ⟨List.mem_append_left _ h.mem, h.cost, fun x hx => ?_⟩ hp
      rcases List.mem_append.mp hx with hx | hx
      · exact h.least x hx
      · rw [List.mem_singleton.mp hx]
        intro q
        have h3 := hr m.2 h.mem
        unfold Bef at q
        unfold RLe at h3
        dsimp only at q
        omega
theorem pick_zero {c : Sh → Int} (hc : ∀ d, 0 ≤ c d) {s : Int × Sh} (hs : s.1 = 0) : ∀ l : List Sh, l.foldl (pick c) s = s
  | [] => rfl
  | d :: l => by
    have e : pick c s d = s := if_neg (by have := hc d; omega)
    rw [List.foldl_cons, e]
    exact pick_zero hc hs l
theorem mem_shifts {r : Nat} {d : Sh} : d ∈ Kh288.shifts r ↔ d.1.natAbs ≤ r ∧ d.2.natAbs ≤ r := by
  unfold Kh288.shifts
  constructor
  · intro h
    obtain ⟨j, hj, h⟩ := List.mem_flatMap.mp h
    obtain ⟨i, hi, rfl⟩ := List.mem_map.mp h
    have hj' := List.mem_range.mp hj
    have hi' := List.mem_range.mp hi
    constructor
    · show ((i : Int) - r).natAbs ≤ r
      omega
    · show ((j : Int) - r).natAbs ≤ r
      omega
  · rintro ⟨h1, h2⟩
    refine List.mem_flatMap.mpr ⟨(d.2 + r).toNat, List.mem_range.mpr (by omega), List.mem_map.mpr ⟨(d.1 + r).toNat, List.mem_range.mpr (by omega), ?_⟩⟩
    obtain ⟨x, y⟩ := d
    dsimp only at *
    have e1 : (((x + r).toNat : Nat) : Int) - r = x := by omega
    have e2 : (((y + r).toNat : Nat) : Int) - r = y := by omega
    rw [e1, e2]
/-- the shifts as the program keeps them -/
structure Ranked (r : Nat) (ds : List Sh) : Prop where
  perm : ds.Perm (Kh288.shifts r)
  order : ds.Pairwise RLe
theorem foldl_congr_mem {α β : Type} {f g : β → α → β} : ∀ (l : List α) (b : β), (∀ x ∈ l, ∀ b, f b x = g b x) → l.foldl f b = l.foldl g b
  | [], _, _ => rfl
  | x :: l, b, h => by
    rw [List.foldl_cons, List.foldl_cons, h x List.mem_cons_self b]
    exact foldl_congr_mem l _ fun y hy b => h y (List.mem_cons_of_mem _ hy) b
/-- what the program finds is what the specification finds -/
theorem found_is {w h r : Nat} {a b : List Int} {ds : List Sh} (pa : PicOk w h a) (pb : PicOk w h b) (hw : 2 * r + 1 ≤ w) (hh : 2 * r + 1 ≤ h) (R : Ranked r ds) :
    (ds.foldl (pick (full w h r a b)) (255 * (a.length : Int) + 1, (0, 0))).2 = (Kh288.find (toPic w h a) (toPic w h b) r).2 := by
  let c : Sh → Nat := fun d => Kh288.cost (toPic w h a) (toPic w h b) r d
  have hm : ∀ d, d ∈ ds ↔ d ∈ Kh288.shifts r := fun d => R.perm.mem_iff
  have hc : ∀ d ∈ ds, full w h r a b d = ((c d : Nat) : Int) := fun d hd => by
    obtain ⟨h1, h2⟩ := mem_shifts.mp ((hm d).mp hd)
    exact full_eq pa pb hw hh h1 h2
  have e0 : ds.foldl (pick (full w h r a b)) (255 * (a.length : Int) + 1, (0, 0)) = ds.foldl (pick fun d => (c d : Int)) (255 * (a.length : Int) + 1, (0, 0)) :=
    foldl_congr_mem ds _ fun x hx s => by
      unfold pick
      rw [hc x hx]
  have z0 : ((0, 0) : Sh) ∈ Kh288.shifts r := mem_shifts.mpr ⟨Nat.zero_le _, Nat.zero_le _⟩
  have sp : Least c ([(0, 0)] ++ Kh288.shifts r) (Kh288.find (toPic w h a) (toPic w h b) r) := by
    refine spec_fold c (Kh288.shifts r) [(0, 0)] (c (0, 0), (0, 0)) ⟨List.mem_cons_self, rfl, fun d hd => ?_⟩
    rw [List.mem_singleton.mp hd]
    exact Bef.irrefl _
  have sp' : Least c (Kh288.shifts r) (Kh288.find (toPic w h a) (toPic w h b) r) := ⟨by
    rcases List.mem_append.mp sp.mem with q | q
    · rw [List.mem_singleton.mp q]
      exact z0
    · exact q, sp.cost, fun d hd => sp.least d (List.mem_append_right _ hd)⟩
  rw [e0]
  cases ds with
  | nil => exact absurd ((hm _).mpr z0) (by simp)
  | cons d ds =>
    rw [List.foldl_cons]
    have l1 : (c d : Int) < 255 * (a.length : Int) + 1 := by
      rw [← hc d List.mem_cons_self]
      exact full_lt pa pb
    have e1 : pick (fun d => (c d : Int)) (255 * (a.length : Int) + 1, (0, 0)) d = (((c d : Nat) : Int), d) := if_pos l1
    rw [e1]
    obtain ⟨m', h1, h2⟩ := pick_fold c ds [d] (c d, d) ⟨List.mem_cons_self, rfl, fun x hx => by
      rw [List.mem_singleton.mp hx]
      exact Bef.irrefl _⟩ R.order
    rw [h2]
    have e2 : m' = Kh288.find (toPic w h a) (toPic w h b) r := h1.uniq sp' hm
    rw [← e2]
end Hs

/-! ## HsMathC -/
namespace Hs
/-! ### one call -/
theorem okSize_iff {w h r : Nat} : Kh288.okSize w h r = true ↔ r ≤ 8 ∧ 2 * r + 1 ≤ w ∧ w ≤ 256 ∧ 2 * r + 1 ≤ h ∧ h ≤ 256 := by
  unfold Kh288.okSize
  simp only [Bool.and_eq_true, decide_eq_true_eq]
theorem okSet_iff {z : Kh289.Set_} : Kh289.okSet z = true ↔ (z.r ≤ 8 ∧ 2 * z.r + 1 ≤ z.w ∧ z.w ≤ 256 ∧ 2 * z.r + 1 ≤ z.h ∧ z.h ≤ 256) ∧ 2 * z.m < z.w ∧ 2 * z.m < z.h ∧ z.slow ≤ 65535 := by
  unfold Kh289.okSet
  rw [Bool.and_eq_true, okSize_iff, Bool.and_eq_true, Bool.and_eq_true, decide_eq_true_eq, decide_eq_true_eq, decide_eq_true_eq]
/-- what is kept of a state -/
structure Good (a : Kh289.Abs) : Prop where
  set : Kh289.okSet a.set = true
  x0 : 0 ≤ a.x
  x1 : a.x ≤ 2 * a.set.m
  y0 : 0 ≤ a.y
  y1 : a.y ≤ 2 * a.set.m
  none0 : a.last = none → a.many = 0
def oneN (v m : Int) : Int := if v < m then v + 1 else if m < v then v - 1 else v
theorem oneN_is (v m : Int) : oneN v m = Kh289.nearer m v := rfl
def minI (v w : Int) : Int := if w < v then w else v
def maxI (v w : Int) : Int := if w > v then w else v
def keepW (v most : Int) : Int := maxI 0 (minI v most)
theorem keepW_is {v m : Int} (hm : 0 ≤ m) : keepW v (2 * m) = Kh289.clamped m v := by
  unfold keepW maxI minI Kh289.clamped
  repeat' split
  all_goals omega
def goes (a : Kh289.Abs) : Bool := a.set.slow != 0 && a.many % a.set.slow == 0
def shiftOf (a : Kh289.Abs) (q p : Kh288.Pic) : Sh := (Kh288.find q p a.set.r).2
def heldX (a : Kh289.Abs) (d : Sh) : Int := a.x + d.1
def heldY (a : Kh289.Abs) (d : Sh) : Int := a.y + d.2
def nearX (a : Kh289.Abs) (d : Sh) : Int := if goes a = true then oneN (heldX a d) a.set.m else heldX a d
def nearY (a : Kh289.Abs) (d : Sh) : Int := if goes a = true then oneN (heldY a d) a.set.m else heldY a d
def keptX (a : Kh289.Abs) (d : Sh) : Int := keepW (nearX a d) (2 * a.set.m)
def keptY (a : Kh289.Abs) (d : Sh) : Int := keepW (nearY a d) (2 * a.set.m)
def told1 (a : Kh289.Abs) (d : Sh) : Int := if nearX a d ≠ heldX a d ∨ nearY a d ≠ heldY a d then 1 else 0
def told (a : Kh289.Abs) (d : Sh) : Int := if keptX a d ≠ nearX a d ∨ keptY a d ≠ nearY a d then told1 a d + 2 else told1 a d
def after (a : Kh289.Abs) (d : Sh) (p : Kh288.Pic) : Kh289.Abs := { a with last := some p, x := keptX a d, y := keptY a d, dx := a.dx + d.1, dy := a.dy + d.2, many := a.many + 1 }
theorem next_some {a : Kh289.Abs} {q p : Kh288.Pic} (h : a.last = some q) :
    Kh289.next a p = (after a (shiftOf a q p) p, ⟨told a (shiftOf a q p), Kh289.shown a.set p (keptX a (shiftOf a q p)) (keptY a (shiftOf a q p)), [keptX a (shiftOf a q p), keptY a (shiftOf a q p)]⟩) := by
  have hm : (0 : Int) ≤ (a.set.m : Int) := Int.natCast_nonneg _
  have kx : keptX a (shiftOf a q p) = Kh289.clamped a.set.m (nearX a (shiftOf a q p)) := keepW_is hm
  have ky : keptY a (shiftOf a q p) = Kh289.clamped a.set.m (nearY a (shiftOf a q p)) := keepW_is hm
  have et : told a (shiftOf a q p) = (if nearX a (shiftOf a q p) ≠ heldX a (shiftOf a q p) ∨ nearY a (shiftOf a q p) ≠ heldY a (shiftOf a q p) then 1 else 0) + (if keptX a (shiftOf a q p) ≠ nearX a (shiftOf a q p) ∨ keptY a (shiftOf a q p) ≠ nearY a (shiftOf a q p) then 2 else 0) := by
    unfold told told1
    by_cases c : keptX a (shiftOf a q p) ≠ nearX a (shiftOf a q p) ∨ keptY a (shiftOf a q p) ≠ nearY a (shiftOf a q p)
    · rw [if_pos c, if_pos c]
    · rw [if_neg c, if_neg c, Int.add_zero]
  rw [et]
  unfold after
  rw [kx, ky]
  unfold Kh289.next
  rw [h]
  rfl
theorem next_none {a : Kh289.Abs} {p : Kh288.Pic} (h : a.last = none) :
    Kh289.next a p = ({ a with last := some p, many := 1 }, ⟨0, Kh289.shown a.set p a.x a.y, [a.x, a.y]⟩) := by
  unfold Kh289.next
  rw [h]
theorem clamped_in (m : Int) (hm : 0 ≤ m) (v : Int) : 0 ≤ Kh289.clamped m v ∧ Kh289.clamped m v ≤ 2 * m := by
  unfold Kh289.clamped
  repeat' split
  all_goals omega
theorem kept_in (a : Kh289.Abs) (d : Sh) : (0 ≤ keptX a d ∧ keptX a d ≤ 2 * a.set.m) ∧ 0 ≤ keptY a d ∧ keptY a d ≤ 2 * a.set.m := by
  have hm : (0 : Int) ≤ (a.set.m : Int) := Int.natCast_nonneg _
  have kx : keptX a d = Kh289.clamped a.set.m (nearX a d) := keepW_is hm
  have ky : keptY a d = Kh289.clamped a.set.m (nearY a d) := keepW_is hm
  rw [kx, ky]
  exact ⟨clamped_in _ hm _, clamped_in _ hm _⟩
/-- what is shown, as the program takes it: row by row -/
def shownRow (w m : Nat) (x y : Int) (b : List Int) (j : Nat) : List Int := seg b (y.toNat * w + j * w + x.toNat) (w - 2 * m)
def shownL (w m : Nat) (x y : Int) (b : List Int) (n : Nat) : List Int := (List.range n).flatMap (shownRow w m x y b)
theorem shownL_succ (w m : Nat) (x y : Int) (b : List Int) (n : Nat) : shownL w m x y b (n + 1) = shownL w m x y b n ++ shownRow w m x y b n := by
  unfold shownL
  rw [List.range_succ, List.flatMap_append]
  simp
theorem shown_is {z : Kh289.Set_} {b : List Int} {x y : Int} (p : PicOk z.w z.h b) (hw : 2 * z.m < z.w) (hh : 2 * z.m < z.h) (x0 : 0 ≤ x) (x1 : x ≤ 2 * z.m) (y0 : 0 ≤ y) (y1 : y ≤ 2 * z.m) :
    (Kh289.shown z (toPic z.w z.h b) x y).map Int.ofNat = shownL z.w z.m x y b (z.h - 2 * z.m) := by
  unfold Kh289.shown shownL
  rw [List.map_flatMap]
  refine flatMap_congr' _ fun j hj => ?_
  have hj' : j < z.h - 2 * z.m := List.mem_range.mp hj
  have f1 : y.toNat * z.w + j * z.w + x.toNat + (z.w - 2 * z.m) ≤ b.length := by
    rw [p.len, ← Nat.add_mul]
    exact row_fits (by omega) (by omega)
  unfold shownRow
  rw [seg_eq f1, List.map_map]
  refine List.map_congr_left fun i hi => ?_
  have hi' : i < z.w - 2 * z.m := List.mem_range.mp hi
  have e := at_in p (x := x + i) (y := y + j) (by omega) (by omega) (by omega) (by omega)
  show (((toPic z.w z.h b).at_ (x + i) (y + j) : Nat) : Int) = _
  rw [e]
  have e2 : (y + (j : Int)).toNat * z.w + (x + (i : Int)).toNat = y.toNat * z.w + j * z.w + x.toNat + i := by
    have e3 : (y + (j : Int)).toNat = y.toNat + j := by omega
    have e4 : (x + (i : Int)).toNat = x.toNat + i := by omega
    rw [e3, e4, Nat.add_mul, Nat.add_assoc (y.toNat * z.w + j * z.w)]
  rw [e2]
where
  flatMap_congr' {α β : Type} {f g : α → List β} : ∀ l : List α, (∀ a ∈ l, f a = g a) → l.flatMap f = l.flatMap g
    | [], _ => rfl
    | a :: l, h => by
      rw [List.flatMap_cons, List.flatMap_cons, h a List.mem_cons_self, flatMap_congr' l fun b hb => h b (List.mem_cons_of_mem _ hb)]
/-! ### what a call answers: the specification's step in the program's numbers -/
def setOf (w h r m s : Int) : Kh289.Set_ := ⟨w.toNat, h.toNat, r.toNat, m.toNat, s.toNat⟩
def frameAns (a : Kh289.Abs) (b : List Int) : List Int := match a.last with
  | none => 0 :: a.x :: a.y :: shownL a.set.w a.set.m a.x a.y b (a.set.h - 2 * a.set.m)
  | some q => let d := shiftOf a q (toPic a.set.w a.set.h b)
    told a d :: keptX a d :: keptY a d :: shownL a.set.w a.set.m (keptX a d) (keptY a d) b (a.set.h - 2 * a.set.m)
theorem step_begin (s : Option Kh289.Abs) (w h r m sl : Int) : Kh289Neutral.step s [[0, w, h, r, m, sl]] =
    if Kh289.okSet (setOf w h r m sl) = true then (some (Kh289.begun (setOf w h r m sl)), [0]) else (s, [-22]) := by
  show ((Kh289.doing s (.begin_ (setOf w h r m sl))).1, (Kh289.doing s (.begin_ (setOf w h r m sl))).2.value :: ((Kh289.doing s (.begin_ (setOf w h r m sl))).2.nums ++ (Kh289.doing s (.begin_ (setOf w h r m sl))).2.out.map Int.ofNat)) = _
  unfold Kh289.doing
  dsimp only
  split <;> rfl
theorem step_where (a : Kh289.Abs) : Kh289Neutral.step (some a) [[2]] = (some a, [0, a.dx, a.dy, (a.many : Int)]) := rfl
theorem step_frame (a : Kh289.Abs) (w h m : Int) (b : List Int) : Kh289Neutral.step (some a) [[1, w, h, m], b] =
    if w.toNat = a.set.w ∧ h.toNat = a.set.h ∧ m.toNat = a.set.m then (some (Kh289.next a (toPic w.toNat h.toNat b)).1, (Kh289.next a (toPic w.toNat h.toNat b)).2.value :: ((Kh289.next a (toPic w.toNat h.toNat b)).2.nums ++ (Kh289.next a (toPic w.toNat h.toNat b)).2.out.map Int.ofNat)) else (some a, [-22]) := by
  show ((Kh289.doing (some a) (.frame (toPic w.toNat h.toNat b) m.toNat)).1, (Kh289.doing (some a) (.frame (toPic w.toNat h.toNat b) m.toNat)).2.value :: ((Kh289.doing (some a) (.frame (toPic w.toNat h.toNat b) m.toNat)).2.nums ++ (Kh289.doing (some a) (.frame (toPic w.toNat h.toNat b) m.toNat)).2.out.map Int.ofNat)) = _
  unfold Kh289.doing
  dsimp only
  show _ = if (toPic w.toNat h.toNat b).w = a.set.w ∧ (toPic w.toNat h.toNat b).h = a.set.h ∧ m.toNat = a.set.m then _ else _
  split <;> rfl
theorem frame_ans {a : Kh289.Abs} {b : List Int} (g : Good a) (p : PicOk a.set.w a.set.h b) :
    (Kh289.next a (toPic a.set.w a.set.h b)).2.value :: ((Kh289.next a (toPic a.set.w a.set.h b)).2.nums ++ (Kh289.next a (toPic a.set.w a.set.h b)).2.out.map Int.ofNat) = frameAns a b := by
  have ok := okSet_iff.mp g.set
  unfold frameAns
  cases e : a.last with
  | none =>
    rw [next_none e]
    dsimp only
    rw [shown_is p ok.2.1 ok.2.2.1 g.x0 g.x1 g.y0 g.y1]
    rfl
  | some q =>
    rw [next_some e]
    dsimp only
    obtain ⟨⟨k0, k1⟩, k2, k3⟩ := kept_in a (shiftOf a q (toPic a.set.w a.set.h b))
    rw [shown_is p ok.2.1 ok.2.2.1 k0 k1 k2 k3]
    rfl
def afterF (a : Kh289.Abs) (b : List Int) : Kh289.Abs := (Kh289.next a (toPic a.set.w a.set.h b)).1
theorem after_none {a : Kh289.Abs} {b : List Int} (h : a.last = none) : afterF a b = { a with last := some (toPic a.set.w a.set.h b), many := 1 } := by
  unfold afterF
  rw [next_none h]
theorem after_some {a : Kh289.Abs} {b : List Int} {q : Kh288.Pic} (h : a.last = some q) : afterF a b = after a (shiftOf a q (toPic a.set.w a.set.h b)) (toPic a.set.w a.set.h b) := by
  unfold afterF
  rw [next_some h]
end Hs

/-! ## HsMathD -/
namespace Hs
/-! ### the whole list of calls -/
abbrev S := Option Kh289.Abs
abbrev Cl := List (List Int)
def chk (x : Bool × S) (c : Cl) : Bool × S := (x.1 && (x.2.isSome || (c.getD 0 []).headD 9 == 0), (Kh289Neutral.step x.2 c).1)
theorem chk_false : ∀ (l : List Cl) (s : S), (l.foldl chk (false, s)).1 = false
  | [], _ => rfl
  | c :: l, s => chk_false l _
theorem whole_id (c : Cl) : PyKh289.whole c = c := by
  unfold PyKh289.whole
  split <;> rfl
theorem whole_map (l : List Cl) : l.map PyKh289.whole = l := by
  rw [show PyKh289.whole = id from funext whole_id, List.map_id]
theorem Good.begun {z : Kh289.Set_} (h : Kh289.okSet z = true) : Good (Kh289.begun z) := by
  have hm : (0 : Int) ≤ (z.m : Int) := Int.natCast_nonneg _
  exact ⟨h, hm, (by show (z.m : Int) ≤ 2 * z.m; omega), hm, (by show (z.m : Int) ≤ 2 * z.m; omega), fun _ => rfl⟩
theorem Good.after {a : Kh289.Abs} (g : Good a) (b : List Int) : Good (afterF a b) := by
  cases e : a.last with
  | none =>
    rw [after_none e]
    exact ⟨g.set, g.x0, g.x1, g.y0, g.y1, fun z => by cases z⟩
  | some q =>
    rw [after_some e]
    obtain ⟨⟨k0, k1⟩, k2, k3⟩ := kept_in a (shiftOf a q (toPic a.set.w a.set.h b))
    exact ⟨g.set, k0, k1, k2, k3, fun z => by cases z⟩
/-- what is still to be answered: of l, from s, the rest; given stands already -/
structure Todo (l : List Int) (s : S) (rest given : List Int) : Prop where
  ex : ∃ f raw, PyFlat.calls PyKh289.shape f rest = some raw ∧ given ++ PyFlat.told (PyFlat.played Kh289Neutral.step s raw) = PyKh289.answers l ∧
    PyInside.calls PyKh289.bound raw = true ∧ raw.all Kh289Neutral.asked1 = true ∧ (raw.foldl chk (true, s)).1 = true
  good : ∀ a, s = some a → Good a
  few : (PyKh289.answers l).length ≤ 10000000
theorem Todo.start {l : List Int} (h : PyKh289.answers_asked l = true) : Todo l none l [] := by
  unfold PyKh289.answers_asked at h
  cases e : PyFlat.calls PyKh289.shape l.length l with
  | none =>
    rw [e] at h
    cases h
  | some raw =>
    rw [e] at h
    dsimp only at h
    rw [whole_map] at h
    simp only [Bool.and_eq_true] at h
    obtain ⟨⟨⟨⟨_, _⟩, h3⟩, h4⟩, h5⟩ := h
    unfold Kh289Neutral.asked at h4
    simp only [Bool.and_eq_true] at h4
    obtain ⟨⟨⟨_, _⟩, h6⟩, h7⟩ := h4
    refine ⟨⟨l.length, raw, e, ?_, h3, h6, h7⟩, (fun a q => by cases q), of_decide_eq_true h5⟩
    unfold PyKh289.answers PyKh289.calls
    rw [e]
    dsimp only
    rw [whole_map]
    rfl
theorem Todo.done {l given : List Int} {s : S} (h : Todo l s [] given) : given = PyKh289.answers l := by
  obtain ⟨f, raw, h1, h2, _⟩ := h.ex
  have e : raw = [] := by
    cases f with
    | zero => exact (Option.some.inj h1).symm
    | succ f => exact (Option.some.inj h1).symm
  subst e
  rw [← h2]
  show given = given ++ []
  rw [List.append_nil]
theorem Todo.ne {l given : List Int} {s : S} {rest : List Int} (h : Todo l s rest given) : given.length ≤ 10000000 := by
  obtain ⟨f, raw, _, h2, _⟩ := h.ex
  have := h.few
  rw [← h2, List.length_append] at this
  omega
/-- the front of the list -/
inductive Front : List Int → Cl → List Int → Prop
  | beg (w h r m s : Int) (t : List Int) : Front (0 :: w :: h :: r :: m :: s :: t) [[0, w, h, r, m, s]] t
  | frm (w h m n : Int) (u : List Int) : 0 ≤ n → n.toNat ≤ u.length → Front (1 :: w :: h :: m :: n :: u) [[1, w, h, m], u.take n.toNat] (u.drop n.toNat)
  | whr (t : List Int) : Front (2 :: t) [[2]] t
theorem front {p : Int} {r : List Int} {c : Cl} {t : List Int} (h : PyFlat.call PyKh289.shape (p :: r) = some (c, t)) : Front (p :: r) c t := by
  unfold PyFlat.call PyKh289.shape at h
  dsimp only at h
  by_cases h0 : p = 0
  · subst h0
    rw [if_pos rfl] at h
    dsimp only at h
    by_cases hl : r.length < 5
    · rw [if_pos hl] at h
      cases h
    · rw [if_neg hl] at h
      match r, hl with
      | w :: h' :: r' :: m :: s :: t', _ =>
        have e : (([[0, w, h', r', m, s]] : Cl), t') = (c, t) := Option.some.inj h
        cases e
        exact .beg ..
      | [], hl => exact absurd (by decide) hl
      | [_], hl => exact absurd (by simp) hl
      | [_, _], hl => exact absurd (by simp) hl
      | [_, _, _], hl => exact absurd (by simp) hl
      | [_, _, _, _], hl => exact absurd (by simp) hl
  · rw [if_neg h0] at h
    by_cases h1 : p = 1
    · subst h1
      rw [if_pos rfl] at h
      dsimp only at h
      by_cases hl : r.length < 3
      · rw [if_pos hl] at h
        cases h
      · rw [if_neg hl] at h
        match r, hl with
        | w :: h' :: m :: r', _ =>
          have e1 : (w :: h' :: m :: r').drop 3 = r' := rfl
          have e2 : (w :: h' :: m :: r').take 3 = [w, h', m] := rfl
          rw [e1, e2] at h
          cases r' with
          | nil => cases h
          | cons n u =>
            unfold PyFlat.rows PyFlat.row PyFlat.rows at h
            dsimp only at h
            by_cases hn : 0 ≤ n ∧ n.toNat ≤ u.length
            · rw [if_pos hn] at h
              dsimp only at h
              have e : (([[1, w, h', m], u.take n.toNat] : Cl), u.drop n.toNat) = (c, t) := Option.some.inj h
              cases e
              exact .frm _ _ _ _ _ hn.1 hn.2
            · rw [if_neg hn] at h
              cases h
        | [], hl => exact absurd (by decide) hl
        | [_], hl => exact absurd (by simp) hl
        | [_, _], hl => exact absurd (by simp) hl
    · rw [if_neg h1] at h
      by_cases h2 : p = 2
      · subst h2
        rw [if_pos rfl] at h
        dsimp only at h
        rw [if_neg (Nat.not_lt_zero _)] at h
        have e : (([[2]] : Cl), r) = (c, t) := Option.some.inj h
        cases e
        exact .whr _
      · rw [if_neg h2] at h
        cases h
/-- of the next call: what is known of it, and what is still to be answered behind it -/
theorem Todo.step {l given : List Int} {s : S} {p : Int} {r : List Int} (h : Todo l s (p :: r) given) :
    ∃ c t, Front (p :: r) c t ∧ PyInside.call PyKh289.bound c = true ∧ Kh289Neutral.asked1 c = true ∧ (s.isSome || (c.getD 0 []).headD 9 == 0) = true ∧
      ((∀ a, (Kh289Neutral.step s c).1 = some a → Good a) → Todo l (Kh289Neutral.step s c).1 t (given ++ ((Kh289Neutral.step s c).2.length : Int) :: (Kh289Neutral.step s c).2)) := by
  obtain ⟨f, raw, h1, h2, h3, h4, h5⟩ := h.ex
  cases f with
  | zero => cases h1
  | succ f =>
    unfold PyFlat.calls at h1
    cases e : PyFlat.call PyKh289.shape (p :: r) with
    | none =>
      rw [e] at h1
      cases h1
    | some ct =>
      obtain ⟨c, t⟩ := ct
      rw [e] at h1
      dsimp only at h1
      cases e2 : PyFlat.calls PyKh289.shape f t with
      | none =>
        rw [e2] at h1
        cases h1
      | some raw' =>
        rw [e2] at h1
        have er : c :: raw' = raw := Option.some.inj h1
        subst er
        have k3 : PyInside.call PyKh289.bound c = true ∧ PyInside.calls PyKh289.bound raw' = true := by
          unfold PyInside.calls at h3 ⊢
          rw [List.all_cons, Bool.and_eq_true] at h3
          exact h3
        rw [List.all_cons, Bool.and_eq_true] at h4
        rw [List.foldl_cons] at h5
        have k5 : (s.isSome || (c.getD 0 []).headD 9 == 0) = true := by
          cases q : (s.isSome || (c.getD 0 []).headD 9 == 0) with
          | true => rfl
          | false =>
            have z : chk (true, s) c = (false, (Kh289Neutral.step s c).1) := by
              unfold chk
              dsimp only
              rw [q]
              rfl
            rw [z, chk_false] at h5
            cases h5
        have z : chk (true, s) c = (true, (Kh289Neutral.step s c).1) := by
          unfold chk
          dsimp only
          rw [k5]
          rfl
        rw [z] at h5
        refine ⟨c, t, front e, k3.1, h4.1, k5, fun hg => ⟨⟨f, raw', e2, ?_, k3.2, h4.2, h5⟩, hg, h.few⟩⟩
        rw [← h2]
        show _ = given ++ (((Kh289Neutral.step s c).2.length : Int) :: (Kh289Neutral.step s c).2 ++ PyFlat.told (PyFlat.played Kh289Neutral.step (Kh289Neutral.step s c).1 raw'))
        rw [List.append_assoc]
def Nat32 (x : Int) : Prop := 0 ≤ x ∧ x ≤ 4294967295
theorem asked_begin {w h r m s : Int} (a : Kh289Neutral.asked1 [[0, w, h, r, m, s]] = true) : 0 ≤ w ∧ 0 ≤ h ∧ 0 ≤ r ∧ 0 ≤ m ∧ 0 ≤ s := by
  have a' : (Kh289Neutral.natural w 32 && (Kh289Neutral.natural h 32 && (Kh289Neutral.natural r 32 && (Kh289Neutral.natural m 32 && (Kh289Neutral.natural s 32))))) = true := a
  unfold Kh289Neutral.natural at a'
  simp only [Bool.and_eq_true, decide_eq_true_eq] at a'
  exact ⟨a'.1.1, a'.2.1.1, a'.2.2.1.1, a'.2.2.2.1.1, a'.2.2.2.2.1⟩
theorem asked_frame {w h m : Int} {b : List Int} (a : Kh289Neutral.asked1 [[1, w, h, m], b] = true) : (0 ≤ w ∧ 0 ≤ h ∧ 0 ≤ m) ∧ (1 ≤ w → w ≤ 256 → 1 ≤ h → h ≤ 256 → PicOk w.toNat h.toNat b) := by
  have a' : ((Kh289Neutral.natural w 32 && (Kh289Neutral.natural h 32 && (Kh289Neutral.natural m 32))) && Kh289Neutral.okPic w h b) = true := a
  rw [Bool.and_eq_true] at a'
  obtain ⟨a1, a2⟩ := a'
  unfold Kh289Neutral.natural at a1
  simp only [Bool.and_eq_true, decide_eq_true_eq] at a1
  refine ⟨⟨a1.1.1, a1.2.1.1, a1.2.2.1⟩, fun b1 b2 b3 b4 => ?_⟩
  unfold Kh289Neutral.okPic at a2
  rw [if_pos ⟨b1, b2, b3, b4⟩, Bool.and_eq_true] at a2
  have h1 : b.length = w.toNat * h.toNat := by
    have := a2.1
    rw [beq_iff_eq] at this
    exact this
  have h2 : ∀ x ∈ b, 0 ≤ x ∧ x < 256 := fun x hx => by
    have h3 : (b.all fun x => decide (0 ≤ x) && decide (x < ((256 : Nat) : Int))) = true := a2.2
    have h4 := List.all_eq_true.mp h3 x hx
    simp only [Bool.and_eq_true, decide_eq_true_eq] at h4
    exact h4
  exact ⟨h1, fun x hx => (h2 x hx).1, fun x hx => by have := (h2 x hx).2; omega⟩
theorem some_frame {s : S} {w h m : Int} {b : List Int} (h : (s.isSome || (([[1, w, h, m], b] : Cl).getD 0 []).headD 9 == 0) = true) : ∃ a, s = some a := by
  cases s with
  | none => cases h
  | some a => exact ⟨a, rfl⟩
theorem some_where {s : S} (h : (s.isSome || (([[2]] : Cl).getD 0 []).headD 9 == 0) = true) : ∃ a, s = some a := by
  cases s with
  | none => cases h
  | some a => exact ⟨a, rfl⟩
theorem step_good {rest t : List Int} {cl : Cl} {s : S} (f : Front rest cl t) (hc : (s.isSome || (cl.getD 0 []).headD 9 == 0) = true) (g : ∀ a, s = some a → Good a) : ∀ a, (Kh289Neutral.step s cl).1 = some a → Good a := by
  cases f with
  | beg w h r m sl t =>
    rw [step_begin]
    intro a ha
    by_cases e : Kh289.okSet (setOf w h r m sl) = true
    · rw [if_pos e] at ha
      cases ha
      exact Good.begun e
    · rw [if_neg e] at ha
      exact g a ha
  | frm w h m n u n0 nl =>
    obtain ⟨z, rfl⟩ := some_frame hc
    rw [step_frame]
    intro a ha
    by_cases e : w.toNat = z.set.w ∧ h.toNat = z.set.h ∧ m.toNat = z.set.m
    · rw [if_pos e, e.1, e.2.1] at ha
      cases ha
      exact (g z rfl).after _
    · rw [if_neg e] at ha
      exact g a ha
  | whr t =>
    obtain ⟨z, rfl⟩ := some_where hc
    rw [step_where]
    exact g
end Hs

/-! ## HsSort -/
set_option maxRecDepth 100000
set_option maxHeartbeats 4000000
/-! sorted(xs, key=f): xs pairs of ints, f a def of one's own that hands back a new tuple of three ints -/
namespace HsSort
open PySem PySem.Spec PyProof.Rows PyProof.Rows.G L2
open Hs (Sh far RLe)
/-! ### the order of the keys -/
def sh3 : Nat → Bool := fun _ => false
def keyL (d : Sh) : List (Int ⊕ List Nat) := [.inl (far d), .inl d.2, .inl d.1]
theorem lex3 (a b c a' b' c' : Int) : lexLt itemOrd [.inl a, .inl b, .inl c] [.inl a', .inl b', .inl c'] = (decide (a < a') || (!decide (a' < a) && (decide (b < b') || (!decide (b' < b) && (decide (c < c') || (!decide (c' < c) && false)))))) := rfl
theorem keyL_le {d e : Sh} (h : lexLt itemOrd (keyL e) (keyL d) = false) : RLe d e := by
  unfold keyL at h
  rw [lex3] at h
  simp only [Bool.or_eq_false_iff, Bool.and_eq_false_iff, Bool.not_eq_false', Bool.and_false, decide_eq_false_iff_not, decide_eq_true_eq] at h
  unfold RLe
  omega
/-! ### lists -/
theorem perm_map {α β : Type} {φ : α → β} {l m : List β} (h : l.Perm m) : ∀ us : List α, m = us.map φ → ∃ us' : List α, us'.Perm us ∧ l = us'.map φ := by
  induction h with
  | nil =>
    intro us e
    have : us = [] := by
      cases us with
      | nil => rfl
      | cons _ _ => cases e
    subst this
    exact ⟨[], List.Perm.refl _, rfl⟩
  | cons x h ih =>
    intro us e
    cases us with
    | nil => cases e
    | cons u us =>
      rw [List.map_cons] at e
      injection e with e1 e2
      obtain ⟨us', p, q⟩ := ih us e2
      exact ⟨u :: us', p.cons u, by rw [List.map_cons, q, e1]⟩
  | swap x y l =>
    intro us e
    cases us with
    | nil => cases e
    | cons u us =>
      cases us with
      | nil => cases e
      | cons v us =>
        rw [List.map_cons, List.map_cons] at e
        injection e with e1 e2
        injection e2 with e2 e3
        exact ⟨v :: u :: us, List.Perm.swap _ _ _, by rw [List.map_cons, List.map_cons, e1, e2, e3]⟩
  | trans h1 h2 ih1 ih2 =>
    intro us e
    obtain ⟨us1, p1, q1⟩ := ih2 us e
    obtain ⟨us2, p2, q2⟩ := ih1 us1 q1
    exact ⟨us2, p2.trans p1, q2⟩
/-! ### objects -/
section
variable {P : Program} {w : World} {H H1 : Hp} {h h1 h2 : Heap} {c : Addr} {fs : List Addr}
theorem un_raw (U : Un fs [] H H1 h h1) (k : ∀ b u, b ≠ c → h1.get? b = some u → h2.get? b = some u) (hc : h.objs.size ≤ c) : Un fs [] H H1 h h2 := by
  have ne : ∀ b o, h.get? b = some o → b ≠ c := fun b o e => Nat.ne_of_lt (Nat.lt_of_lt_of_le (Heap.lt_size e) hc)
  refine ⟨fun b o e n hb hx => k b o (ne b o e) (U.keep b o e n hb hx), fun b o e n hb hx => ?_, U.free, fun b o e hx => ?_, U.tups, U.frzs, U.tbls⟩
  · obtain ⟨sl, q⟩ := U.slot b o e n hb hx
    exact ⟨sl, k b _ (ne b o e) q⟩
  · obtain ⟨o', q⟩ := U.there b o e hx
    exact ⟨o', k b o' (ne b o e) q⟩
theorem hok_raw (ok : HOk P w H h1) (k : ∀ b u, b ≠ c → h1.get? b = some u → h2.get? b = some u) (hc : H c = none) : HOk P w H h2 := fun a o e =>
  (ok a o e).stay (fun b u q r => k b u (by
    rcases q with q | q
    · rw [q]
      exact ne_of_none e hc
    · exact ne_of_none q hc) r) (fun _ q => q) fun _ _ q => q
/-- an untracked object, made since, is tracked from here on -/
theorem un_track {o : HO} (U : Un fs [] H H1 h h1) (hc : h.objs.size ≤ c) (hn : H c = none) (hn1 : H1 c = none) : Un fs [] H (upd H1 c o) h h1 := by
  have ne : ∀ b ob, h.get? b = some ob → b ≠ c := fun b ob e => Nat.ne_of_lt (Nat.lt_of_lt_of_le (Heap.lt_size e) hc)
  refine ⟨U.keep, U.slot, fun b ob e n hx => ?_, U.there, fun b xs e => ?_, fun b ob u e => ?_, fun b ps e => ?_⟩
  · rw [upd_ne (ne b ob e)]
    exact U.free b ob e n hx
  · have q := U.tups b xs e
    rw [upd_ne (ne_of_none q hn1)]
    exact q
  · have q := U.frzs b ob u e
    rw [upd_ne (ne_of_none q hn1)]
    exact q
  · obtain ⟨m, q⟩ := U.tbls b ps e
    exact ⟨m, by rw [upd_ne (ne_of_none q hn1)]; exact q⟩
theorem hok_track {o : HO} (ok : HOk P w H h) (hn : H c = none) (new : ObjOk P w (upd H c o) h c o) : HOk P w (upd H c o) h := fun a u e => by
  by_cases ha : a = c
  · subst ha
    rw [upd_same] at e
    cases e
    exact new
  · rw [upd_ne ha] at e
    exact (ok a u e).stay (fun _ _ _ r => r) (fun b q => by rw [upd_ne (ne_of_none q hn)]; exact q) fun b xs q => by rw [upd_ne (ne_of_none q hn)]; exact q
/-- a key as it lies in the heap -/
theorem key_raw {q : Addr} {d : Sh} (ok : HOk P w H h) (e : H q = some (.tup [.int (far d), .int d.2, .int d.1])) : tupKeyC h sh3 (.ref q) = some (keyL d) ∧ ∃ f, TupOf h sh3 (.ref q) f := by
  obtain ⟨_, its, r, o, ho, hc, n, hd⟩ := ok q _ e
  cases r with
  | cons r1 r =>
    cases r with
    | cons r2 r =>
      cases r with
      | cons r3 r =>
        cases r
        obtain ⟨t1, rfl⟩ := r1
        obtain ⟨t2, rfl⟩ := r2
        obtain ⟨t3, rfl⟩ := r3
        constructor
        · unfold tupKeyC
          have e1 : isTupObj h (.ref q) = true := by
            simp only [isTupObj, ho, hc]
            rfl
          rw [if_pos e1]
          simp only [tupKey, ho, hd]
          rfl
        · exact ⟨_, q, o, _, n, rfl, ho, hc, hd, rfl, fun _ => ⟨_, _, rfl⟩, fun z => by cases z⟩
end

/-! ### the promise of the key's def; the keys in the heap -/
def spRank : Sp := fun vs H Q _ => ∃ (t : Addr) (d : Sh), vs = [.ref t] ∧ H t = some (.tup [.int d.1, .int d.2]) ∧ d.1.natAbs ≤ 8 ∧ d.2.natAbs ≤ 8 ∧
  ∀ p, H p = none → Q (.ref p) (upd H p (.tup [.int (far d), .int d.2, .int d.1]))
def KeyAt (H : Hp) (q : Addr) (d : Sh) : Prop := H q = some (.tup [.int (far d), .int d.2, .int d.1])
def ShAt (H : Hp) (p : Addr × Sh) : Prop := H p.1 = some (.tup [.int p.2.1, .int p.2.2]) ∧ p.2.1.natAbs ≤ 8 ∧ p.2.2.natAbs ≤ 8
inductive KeysAt (H : Hp) : List Addr → List (Addr × Sh) → Prop
  | nil : KeysAt H [] []
  | cons {q : Addr} {p : Addr × Sh} {qs : List Addr} {xs : List (Addr × Sh)} : KeyAt H q p.2 → KeysAt H qs xs → KeysAt H (q :: qs) (p :: xs)
theorem KeysAt.snoc {H : Hp} {q : Addr} {p : Addr × Sh} (k : KeyAt H q p.2) : ∀ {qs : List Addr} {xs : List (Addr × Sh)}, KeysAt H qs xs → KeysAt H (qs ++ [q]) (xs ++ [p])
  | _, _, .nil => .cons k .nil
  | _, _, .cons a r => .cons a (KeysAt.snoc k r)
theorem KeysAt.mono {H H' : Hp} (e : ∀ b o, H b = some o → H' b = some o) : ∀ {qs : List Addr} {xs : List (Addr × Sh)}, KeysAt H qs xs → KeysAt H' qs xs
  | _, _, .nil => .nil
  | _, _, .cons a r => .cons (e _ _ a) (KeysAt.mono e r)
theorem KeysAt.len {H : Hp} : ∀ {qs : List Addr} {xs : List (Addr × Sh)}, KeysAt H qs xs → qs.length = xs.length
  | _, _, .nil => rfl
  | _, _, .cons _ r => congrArg (· + 1) r.len
abbrev rv (p : Addr × Sh) : Value := Value.ref p.1
abbrev Tri := Addr × (Addr × Sh)
def tris : List Addr → List (Addr × Sh) → List Tri := List.zip
def triV (u : Tri) : Keyed := (Value.ref u.1, Value.ref u.2.1)
theorem tri_zip : ∀ (qs : List Addr) (xs : List (Addr × Sh)), (qs.map Value.ref).zip (xs.map rv) = (tris qs xs).map triV
  | [], _ => rfl
  | _ :: _, [] => rfl
  | q :: qs, x :: xs => congrArg (List.cons (triV (q, x))) (tri_zip qs xs)
theorem tri_snd {H : Hp} : ∀ {qs : List Addr} {xs : List (Addr × Sh)}, KeysAt H qs xs → (tris qs xs).map (·.2) = xs
  | _, _, .nil => rfl
  | _, _, .cons (q := q) (p := p) _ r => congrArg (List.cons p) (tri_snd r)
theorem tri_key {H : Hp} : ∀ {qs : List Addr} {xs : List (Addr × Sh)}, KeysAt H qs xs → ∀ u ∈ tris qs xs, KeyAt H u.1 u.2.2
  | _, _, .nil, u, h => by cases h
  | _, _, .cons k r, u, h => by
    rcases List.mem_cons.mp h with rfl | h
    · exact k
    · exact tri_key r u h
/-- the pairs in their order -/
theorem pairs_out {P : Program} {w : World} {H : Hp} {h : Heap} {qs : List Addr} {xs : List (Addr × Sh)} {arr : Array Keyed} {n : Nat} (ok : HOk P w H h) (K : KeysAt H qs xs)
    (hp : arr.Perm ((qs.map Value.ref).toArray.zip (xs.map rv).toArray)) (hn : n = xs.length) (hs : SortedToK (tupKindC h sh3) arr n) :
    ∃ xs' : List (Addr × Sh), xs'.Perm xs ∧ (xs'.map (·.2)).Pairwise RLe ∧ arr.map (·.2) = (xs'.map rv).toArray := by
  have e1 : ((qs.map Value.ref).toArray.zip (xs.map rv).toArray).toList = (tris qs xs).map triV := by
    rw [← tri_zip]
    simp
  have e2 : arr.toList.Perm ((tris qs xs).map triV) := by
    rw [← e1]
    exact Array.perm_iff_toList_perm.mp hp
  obtain ⟨us, p1, p2⟩ := perm_map e2 _ rfl
  have kk : ∀ u ∈ us, KeyAt H u.1 u.2.2 := fun u hu => tri_key K u (p1.mem_iff.mp hu)
  have hlen : us.length = n := by
    have a1 := p1.length_eq
    have a2 := congrArg List.length (tri_snd K)
    rw [List.length_map] at a2
    omega
  have at_ : ∀ i (hi : i < us.length), KK (tupKindC h sh3) arr i = keyL us[i].2.2 := fun i hi => by
    have e3 : arr[i]? = some (triV us[i]) := by
      rw [← Array.getElem?_toList, p2, List.getElem?_map, List.getElem?_eq_getElem hi]
      rfl
    have e4 : tupKeyC h sh3 (.ref us[i].1) = some (keyL us[i].2.2) := (key_raw ok (kk _ (List.getElem_mem hi))).1
    unfold KK
    rw [e3]
    show (tupKeyC h sh3 (Value.ref us[i].1)).getD [] = _
    rw [e4]
    rfl
  refine ⟨us.map (·.2), ?_, ?_, ?_⟩
  · have q := p1.map (·.2)
    rw [tri_snd K] at q
    exact q
  · rw [List.map_map, List.pairwise_map, List.pairwise_iff_getElem]
    intro i j hi hj hij
    have q := hs i j (Nat.le_of_lt hij) (by omega)
    rw [at_ i hi, at_ j hj] at q
    exact keyL_le q
  · apply Array.toList_inj.mp
    rw [Array.toList_map, p2, List.map_map, List.map_map]
    rfl

/-! ### the walk -/
section
variable {X : Cx} {pins : List (Addr × Obj)} {σ : L2.St} {H H' : Hp} {s s' : Shared} {f D kS : Addr} {fd : FuncData} {k e1 e : Nat} {qs : List Addr} {xs ys : List (Addr × Sh)}
/-- where the sort stands: H' is tracked; the keys of ys lie in the store -/
structure Lp (X : Cx) (H : Hp) (s : Shared) (D kS : Addr) (e1 : Nat) (ys : List (Addr × Sh)) (H' : Hp) (qs : List Addr) (e : Nat) (s' : Shared) : Prop where
  os : s'.os = s.os
  bare : AllBare s'.gens
  un : Un (frs X.stack) [] H H' s.heap s'.heap
  ok : HOk X.prog X.w H' s'.heap
  ext : ∀ b o, H b = some o → H' b = some o
  nD : H' D = none
  nS : H' kS = none
  aD : s'.heap.get? D = some (seqObj "list" #[] e1)
  aS : s'.heap.get? kS = some (seqObj "list" (qs.map Value.ref).toArray e)
  keys : KeysAt H' qs ys
theorem noStk (I : Inv X pins σ H s) {a : Addr} (h : s.heap.objs.size ≤ a) : a ∉ frs X.stack := fun hb => by
  rcases List.mem_cons.mp (I.stkSub a hb) with e | e
  · have z := I.lt
    rw [← e] at z
    exact absurd (Nat.lt_of_lt_of_le z h) (Nat.lt_irrefl _)
  · exact I.nofs h e
theorem Lp.inv (I : Inv X pins σ H s) (L : Lp X H s D kS e1 ys H' qs e s') : Inv X pins σ H' s' := I.call' L.os L.un L.ok L.bare fun b z => absurd z (by simp)
theorem Lp.called (I : Inv X pins σ H s) (L : Lp X H s D kS e1 ys H' qs e s') (F : FnOk X.prog X.w X.K X.mg X.base CX0 k f fd ["shift"] spRank) (hr : Room (k + 2) X.A) (hb : Binds X.K fd ["shift"] [])
    {p : Addr × Sh} (hp : ShAt H p) (hD : s.heap.objs.size ≤ D) (hS : s.heap.objs.size ≤ kS) :
    wpAny (model X.prog X.w) X.A.in1.in1 (call (.ref f) [rv p]) (fun v s3 => ∃ q H3, v = Value.ref q ∧ KeyAt H3 q p.2 ∧ Lp X H s D kS e1 ys H3 qs e s3) (fun _ _ => False) s' := by
  have I' := L.inv I
  refine wpAny_call (codeAny_mono (F.run X.A.in1.in1 X.stack s' H' ⟨[rv p], []⟩ [rv p] [.ref p.1] (fun v H2 => ∃ q, v = .ref q ∧ H' q = none ∧ H2 = upd H' q (.tup [.int (far p.2), .int p.2.2, .int p.2.1])) E0
    hr.in1.in1 I'.env0.in1.in1 (hb s' [rv p] I'.kIn rfl) (.cons rfl .nil) ⟨p.1, p.2, rfl, L.ext _ _ hp.1, hp.2.1, hp.2.2, fun q nq => ⟨q, rfl, nq, rfl⟩⟩) fun r s3 hq => ?_)
  cases r with
  | error x => exact False.elim hq
  | ok fl =>
    cases fl with
    | next => exact False.elim hq
    | brk => exact False.elim hq
    | cont => exact False.elim hq
    | ret u =>
      obtain ⟨v, H3, os, bare, un, hok, rel, q, rfl, nq, rfl⟩ := hq
      have eu : u = Value.ref q := rel
      have sm : ∀ b o, H' b = some o → upd H' q (.tup [.int (far p.2), .int p.2.2, .int p.2.1]) b = some o := fun b o z => by
        rw [upd_ne (ne_of_none z nq)]
        exact z
      exact ⟨q, _, eu, upd_same, os.trans L.os, bare, L.un.trans un, hok, fun b o z => sm b o (L.ext b o z), un.free D _ L.aD L.nD (by simp), un.free kS _ L.aS L.nS (by simp),
        un.keep D _ L.aD L.nD (noStk I hD) (by simp), un.keep kS _ L.aS L.nS (noStk I hS) (by simp), L.keys.mono sm⟩
theorem Lp.pushed (L : Lp X H s D kS e1 ys H' qs e s') {p : Addr × Sh} {q : Addr} (hq : KeyAt H' q p.2) (hDS : D ≠ kS) (hS : s.heap.objs.size ≤ kS) :
    ∃ e', Lp X H s D kS e1 (ys ++ [p]) H' (qs ++ [q]) e' { s' with heap := s'.heap.update kS (Obj.mapSeq (·.push (Value.ref q))) } := by
  have sb := Heap.SameBut.update s'.heap kS (Obj.mapSeq (·.push (Value.ref q)))
  have kp : ∀ b u, b ≠ kS → s'.heap.get? b = some u → (s'.heap.update kS (Obj.mapSeq (·.push (Value.ref q)))).get? b = some u := fun b u hb z => (sb.2 b hb).trans z
  obtain ⟨e', he⟩ : ∃ e', (s'.heap.update kS (Obj.mapSeq (·.push (Value.ref q)))).get? kS = some (seqObj "list" ((qs ++ [q]).map Value.ref).toArray e') := by
    have ea : ((qs.map Value.ref).toArray).push (Value.ref q) = ((qs ++ [q]).map Value.ref).toArray := by simp
    rw [← ea]
    exact ⟨_, get?_update_seq L.aS (·.push (Value.ref q))⟩
  exact ⟨e', L.os, L.bare, un_raw L.un kp hS, hok_raw L.ok kp L.nS, L.ext, L.nD, L.nS, kp D _ hDS L.aD, he, L.keys.snoc hq⟩

theorem pairs_size (hk : qs.length = xs.length) : ((qs.map Value.ref).toArray.zip (xs.map rv).toArray).size = xs.length := by
  rw [Array.size_zip, List.size_toArray, List.size_toArray, List.length_map, List.length_map, hk, Nat.min_self]
/-- behind the last key: the sort itself, and what it leaves -/
theorem Lp.sorted {PF : PySem.Fin → Shared → Prop} {A : Around} {E : Value → Shared → Prop} (I : Inv X pins σ H s) (L : Lp X H s D kS e1 xs H' qs e s') (hDS : D ≠ kS) (hD : s.heap.objs.size ≤ D) (hS : s.heap.objs.size ≤ kS) (hz : xs.length ≤ 1000)
    (h : ∀ (xs' : List (Addr × Sh)) (s3 : Shared), xs'.Perm xs → (xs'.map (·.2)).Pairwise RLe → Inv X pins σ (upd H' D (.lst (xs'.map fun p => V.ref p.1))) s3 → PF (.done (.ret .none)) s3) :
    wpAny (model X.prog X.w) A (ksk_end D false (xs.map rv).toArray e1 (.ref kS) (qs.map Value.ref).toArray) PF E s' := by
  have hk := L.keys.len
  have zl : (1000 : Nat) ≤ sizeLine := by decide
  -- the end: from an array of pairs that is in order
  have tail : ∀ st : SortSt, (arrOf st).Perm ((qs.map Value.ref).toArray.zip (xs.map rv).toArray) → failedOf st = none → SortedToK (tupKindC s'.heap sh3) (arrOf st) xs.length →
      wpAny (model X.prog X.w) A (ksk_tail D false e1 (.ref kS) st) PF E s' := by
    intro st hp hf hs
    obtain ⟨xs', p1, p2, p3⟩ := pairs_out L.ok L.keys hp rfl hs
    have lx : xs'.length = xs.length := p1.length_eq
    have sb1 := Heap.SameBut.update s'.heap kS (Obj.mapSeq fun _ => (#[] : Array Value))
    have k1 : ∀ b u, b ≠ kS → s'.heap.get? b = some u → (s'.heap.update kS (Obj.mapSeq fun _ => (#[] : Array Value))).get? b = some u := fun b u hb z => (sb1.2 b hb).trans z
    have sb2 := Heap.SameBut.update (s'.heap.update kS (Obj.mapSeq fun _ => (#[] : Array Value))) D (Obj.mapSeq fun _ => (xs'.map rv).toArray)
    have k2 : ∀ b u, b ≠ D → (s'.heap.update kS (Obj.mapSeq fun _ => (#[] : Array Value))).get? b = some u → ((s'.heap.update kS (Obj.mapSeq fun _ => (#[] : Array Value))).update D (Obj.mapSeq fun _ => (xs'.map rv).toArray)).get? b = some u := fun b u hb z => (sb2.2 b hb).trans z
    have aD1 := k1 D _ hDS L.aD
    obtain ⟨c2, hc2⟩ : ∃ c2, ((s'.heap.update kS (Obj.mapSeq fun _ => (#[] : Array Value))).update D (Obj.mapSeq fun _ => (xs'.map rv).toArray)).get? D = some (seqObj "list" (xs'.map rv).toArray c2) :=
      ⟨_, get?_update_seq aD1 fun _ => (xs'.map rv).toArray⟩
    have un2 := un_raw (un_raw L.un k1 hS) k2 hD
    have ok2 := hok_raw (hok_raw L.ok k1 L.nS) k2 L.nD
    have hDn : H D = none := I.hok.fresh hD
    have new : ObjOk X.prog X.w (upd H' D (.lst (xs'.map fun p => V.ref p.1))) ((s'.heap.update kS (Obj.mapSeq fun _ => (#[] : Array Value))).update D (Obj.mapSeq fun _ => (xs'.map rv).toArray)) D (.lst (xs'.map fun p => V.ref p.1)) := by
      refine ⟨by rw [List.length_map]; omega, xs'.map rv, c2, ?_, hc2⟩
      have all : ∀ l : List (Addr × Sh), Vals (l.map fun p => V.ref p.1) (l.map rv) := fun l => by
        induction l with
        | nil => exact .nil
        | cons a l ih => exact .cons rfl ih
      exact all xs'
    unfold ksk_tail
    try dsimp only
    rw [p3, hf]
    refine wpAny_bind (listUpdate_at L.aS rfl ?_ (by rw [List.size_toArray, List.length_map]; omega) (Nat.zero_le _))
    refine wpAny_bind (wpAny_letGo ?_)
    refine wpAny_bind (seqEpoch_at aD1 rfl ?_)
    refine wpAny_bind (listUpdate_at aD1 rfl ?_ (Nat.zero_le _) (by show (xs'.map rv).toArray.size ≤ _; rw [List.size_toArray, List.length_map]; omega))
    rw [show (e1 != e1) = false from bne_self_eq_false e1]
    refine wpAny_pure (h xs' _ p1 p2 ?_)
    exact I.call' (ch := []) L.os (un_track un2 hD hDn L.nD) (hok_track ok2 L.nD new) L.bare fun b z => absurd z (by simp)
  unfold ksk_end
  try dsimp only
  rw [if_neg Bool.false_ne_true, if_neg Bool.false_ne_true]
  by_cases h2 : (xs.map rv).toArray.size < 2
  · rw [if_pos h2, if_pos h2]
    rw [List.size_toArray, List.length_map] at h2
    refine wpAny_bind (wpAny_pure ?_)
    rw [StateT.run_pure]
    refine wpAny_bind (wpAny_pure ?_)
    try dsimp only
    refine tail (SortSt.mk' general' ((qs.map Value.ref).toArray.zip (xs.map rv).toArray) #[] 7 none) (Array.Perm.refl _) rfl fun i j hij hj => ?_
    have eij : i = j := by omega
    subst eij
    exact KeyOrd.kle_refl _
  · rw [if_neg h2, if_neg h2]
    rw [List.size_toArray, List.length_map] at h2
    have T : ∀ (qs : List Addr) (xs : List (Addr × Sh)), KeysAt H' qs xs → ∃ fs, TupsOf s'.heap sh3 (qs.map Value.ref) fs ∧ fs.length = xs.length := by
      intro qs xs K
      induction K with
      | nil => exact ⟨[], .nil, rfl⟩
      | cons a r ih =>
        obtain ⟨fs, t, l⟩ := ih
        obtain ⟨_, f1, t1⟩ := key_raw L.ok a
        exact ⟨f1 :: fs, .cons t1 t, congrArg (· + 1) l⟩
    obtain ⟨fs, t, lf⟩ := T qs xs L.keys
    refine wpAny_bind (tup_kind (shape := sh3) (by omega) t ?_)
    have h0 : KeysOf (tupKindC s'.heap sh3) ((qs.map Value.ref).toArray.zip (xs.map rv).toArray) := by
      intro p hp
      have e1 : ((qs.map Value.ref).toArray.zip (xs.map rv).toArray).toList = (tris qs xs).map triV := by
        rw [← tri_zip]
        simp
      rw [e1] at hp
      obtain ⟨u, hu, rfl⟩ := List.mem_map.mp hp
      exact ⟨_, (key_raw L.ok (tri_key L.keys u hu)).1⟩
    refine wpAny_bind (wpAny_mono (wpS_sortRunsSt (κ := tupKindC s'.heap sh3) (kd := tuples' true) (a₀ := (qs.map Value.ref).toArray.zip (xs.map rv).toArray) (st := SortSt.mk' (tuples' true) ((qs.map Value.ref).toArray.zip (xs.map rv).toArray) #[] 7 none)
      (Q := fun _ st' => (arrOf st').Perm ((qs.map Value.ref).toArray.zip (xs.map rv).toArray) ∧ failedOf st' = none ∧ SortedToK (tupKindC s'.heap sh3) (arrOf st') xs.length)
      (tupC_ltAt true (KeepsTups.refl _)) h0 ⟨Array.Perm.refl _, rfl, rfl⟩ rfl (Stable.refl _) (by rw [pairs_size hk]; omega) fun st' a1 a2 a3 a4 => ⟨a1, a2, by rw [pairs_size hk] at a3; exact a3⟩) ?_ fun _ _ z => z)
    rintro ⟨⟨⟩, st'⟩ s4 ⟨rfl, hp, hf, hs⟩
    try dsimp only
    exact tail st' hp hf hs

/-- the keys, one by one, then the sort -/
theorem Lp.run {PF : PySem.Fin → Shared → Prop} {E : Value → Shared → Prop} (I : Inv X pins σ H s) (L : Lp X H s D kS e1 [] H' [] e s') (F : FnOk X.prog X.w X.K X.mg X.base CX0 k f fd ["shift"] spRank) (hr : Room (k + 2) X.A) (hb : Binds X.K fd ["shift"] [])
    (hx : ∀ p ∈ xs, ShAt H p) (hDS : D ≠ kS) (hD : s.heap.objs.size ≤ D) (hS : s.heap.objs.size ≤ kS) (hz : xs.length ≤ 1000)
    (h : ∀ (xs' : List (Addr × Sh)) (s3 : Shared) (H3 : Hp), xs'.Perm xs → (xs'.map (·.2)).Pairwise RLe → (∀ b o, H b = some o → H3 b = some o) → H3 D = none → Inv X pins σ (upd H3 D (.lst (xs'.map fun p => V.ref p.1))) s3 → PF (.done (.ret .none)) s3) :
    wpAny (model X.prog X.w) X.A.in1.in1 (ksk_rest D (.ref f) false (xs.map rv).toArray e1 (.ref kS)) PF E s' := by
  have zl : (1000 : Nat) < sizeLine := by decide
  unfold ksk_rest
  refine wpAny_bind (wpAny_rule ?_)
  rw [List.forIn_toArray]
  refine wpAny_bind (ksk_fold (fun i t => ∃ H2 qs e2, Lp X H s D kS e1 (xs.take i) H2 qs e2 t) (xs.map rv) 0 s' ⟨H', [], e, L⟩ ?step ?done)
  case step =>
    rintro j x t hj ⟨H2, qs, e2, L2⟩
    rw [Nat.zero_add] at L2 ⊢
    rw [List.getElem?_map] at hj
    cases hp : xs[j]? with
    | none =>
      rw [hp] at hj
      cases hj
    | some p =>
      rw [hp] at hj
      have ex : rv p = x := Option.some.inj hj
      subst ex
      have hjl := (List.getElem?_eq_some_iff.mp hp).1
      refine wpAny_bind (wpAny_attempt (wpAny_mono (L2.called I F hr hb (hx p (List.mem_of_getElem? hp)) hD hS) (fun v t2 he => ?_) fun _ _ z => z.elim))
      obtain ⟨q, H3, rfl, hq, L3⟩ := he
      obtain ⟨e3, L4⟩ := L3.pushed hq hDS hS
      try dsimp only
      have hlen : (qs.map Value.ref).toArray.size = j := by
        rw [List.size_toArray, List.length_map, L3.keys.len, List.length_take]
        omega
      refine wpAny_bind (listUpdate_at L3.aS rfl ?_ (by rw [hlen]; omega) (by rw [Array.size_push, hlen]; omega))
      refine wpAny_pure ⟨rfl, H3, qs ++ [q], e3, ?_⟩
      have et : xs.take (j + 1) = xs.take j ++ [p] := by
        rw [List.take_add_one, hp]
        rfl
      rw [et]
      exact L4
  case done =>
    rintro t ⟨H2, qs, e2, L2⟩
    rw [Nat.zero_add, List.length_map, List.take_length] at L2
    try dsimp only
    refine wpAny_bind (listItems_at L2.aS rfl ?_)
    exact L2.sorted I hDS hD hS hz fun xs' s3 p1 p2 J => h xs' s3 H2 p1 p2 L2.ext L2.nD J
/-- sorted(l, key=f) -/
def rSortedSh (K : PySem.W.Frag) (f : Addr) : List V → List V → Hp → VK → Prop := fun vs zs H Q => ∃ (a : Addr) (xs : List (Addr × Sh)), vs = [V.ref a] ∧ zs = [V.ref f] ∧ SqL K H a (xs.map fun p => V.ref p.1) ∧ (∀ p ∈ xs, ShAt H p) ∧ xs.length ≤ 1000 ∧
  ∀ (xs' : List (Addr × Sh)) (p : Addr) (H3 : Hp), xs'.Perm xs → (xs'.map (·.2)).Pairwise RLe → (∀ b o, H b = some o → H3 b = some o) → H3 p = none → Q (.ref p) (upd H3 p (.lst (xs'.map fun p => V.ref p.1)))
theorem vals_refs : ∀ {xs : List (Addr × Sh)} {its : List Value}, Vals (xs.map fun p => V.ref p.1) its → its = xs.map rv
  | [], _, .nil => rfl
  | p :: xs, _, .cons r t => by
    have e : _ = Value.ref p.1 := r
    rw [vals_refs t, e]
    rfl
theorem cr_sortedSh (F : FnOk X.prog X.w X.K X.mg X.base CX0 k f fd ["shift"] spRank) (hr : Room (k + 2) X.A) (hb : Binds X.K fd ["shift"] []) : CallRK X (.builtin "sorted") [Str.ofString "key"] (rSortedSh X.K f) := by
  intro pins s σ H vs zs us ws Q I r rz h
  obtain ⟨a, xs, rfl, rfl, hs, hx, hz, q⟩ := h
  obtain rfl := Vals.ref1 r
  obtain ⟨w1, rfl, e1⟩ := vals1 rz
  obtain rfl : w1 = Value.ref f := e1
  have zl : (1000 : Nat) < sizeLine := by decide
  obtain ⟨its, rvs, hl, _⟩ := I.list hs
  have eits := vals_refs rvs
  subst eits
  have hzz : (xs.map rv).length ≤ sizeLine := by
    rw [List.length_map]
    omega
  refine call_function_entry_kw kind_sorted plain_sorted entry_sorted (ksk_s1 _ _) ?_
  unfold Builtin.«sorted»
  refine wpAny_bind (m := checkCount "sorted" 1 1 _) (wpAny_pure ?_)
  refine wpAny_bind (collect_list hl.isList ?_ hzz)
  refine wpAny_bind (wpAny_newList ?_ hzz)
  obtain ⟨g1, hg1⟩ : ∃ g, g = (s.heap.push (seqObj "list" #[] 0)).update s.heap.objs.size (Obj.mapSeq (· ++ (xs.map rv).toArray)) := ⟨_, rfl⟩
  have sz1 : g1.objs.size = s.heap.objs.size + 1 := by
    rw [hg1, Heap.size_update, size_push']
  have kp1 : ∀ b o, s.heap.get? b = some o → g1.get? b = some o := fun b o z => by
    rw [hg1, Heap.get?_update_ne _ _ _ _ (Nat.ne_of_lt (Heap.lt_size z))]
    exact Heap.get?_push_of_some _ z
  obtain ⟨g2, hg2⟩ : ∃ g, g = g1.push (seqObj "list" (xs.map rv).toArray 0) := ⟨_, rfl⟩
  obtain ⟨D, hDe⟩ : ∃ D, D = g1.objs.size := ⟨_, rfl⟩
  have aD2 : g2.get? D = some (seqObj "list" (xs.map rv).toArray 0) := by
    rw [hg2, hDe]
    exact Heap.get?_push_size _ rfl
  have kp2 : ∀ b o, s.heap.get? b = some o → g2.get? b = some o := fun b o z => by
    rw [hg2]
    exact Heap.get?_push_of_some _ (kp1 b o z)
  have sz2 : g2.objs.size = s.heap.objs.size + 2 := by
    rw [hg2, size_push', sz1]
  have hD : s.heap.objs.size ≤ D := by
    rw [hDe, sz1]
    exact Nat.le_succ _
  show wpAny _ _ _ _ _ { s with heap := ((s.heap.push (seqObj "list" #[] 0)).update s.heap.objs.size (Obj.mapSeq (· ++ (xs.map rv).toArray))).push (seqObj "list" (xs.map rv).toArray 0) }
  rw [← hg1, ← hg2]
  show wpAny _ _ (holding [Value.ref g1.objs.size] (call (Value.builtin "list.sort") [Value.ref g1.objs.size] [(Str.ofString "key", Value.ref f)]) >>= fun _ => ret (Value.ref g1.objs.size)) _ _ _
  rw [← hDe]
  refine wpAny_bind (wpAny_holding (wpAny_call_entry_kw slot_list_sort ⟨_, aD2, rfl⟩ entry_list_sort ?_ (ksk_l1 _ _)))
  rw [ksk_t1]
  -- the list is emptied
  have sb3 := Heap.SameBut.update g2 D (Obj.mapSeq fun _ => (#[] : Array Value))
  obtain ⟨e1, aD3⟩ : ∃ e1, (g2.update D (Obj.mapSeq fun _ => (#[] : Array Value))).get? D = some (seqObj "list" #[] e1) := ⟨_, get?_update_seq aD2 fun _ => #[]⟩
  have kp3 : ∀ b o, s.heap.get? b = some o → (g2.update D (Obj.mapSeq fun _ => (#[] : Array Value))).get? b = some o := fun b o z =>
    (sb3.2 b (Nat.ne_of_lt (Nat.lt_of_lt_of_le (Heap.lt_size z) hD))).trans (kp2 b o z)
  unfold ksk_tree
  refine wpAny_bind (listItems_at aD2 rfl ?_)
  refine wpAny_bind (listUpdate_at aD2 rfl ?_ (by rw [List.size_toArray]; exact hzz) (Nat.zero_le _))
  refine wpAny_bind (seqEpoch_at aD3 rfl ?_)
  refine wpAny_bind (wpAny_newTuple ?_ hzz)
  refine wpAny_bind (wpAny_newList ?_ (Nat.zero_le _))
  refine wpAny_holding ?_
  obtain ⟨g4, hg4⟩ : ∃ g, g = (g2.update D (Obj.mapSeq fun _ => (#[] : Array Value))).push (seqObj "tuple" (xs.map rv).toArray 0) := ⟨_, rfl⟩
  have sz4 : g4.objs.size = s.heap.objs.size + 3 := by
    rw [hg4, size_push', Heap.size_update, sz2]
  have hDS : D ≠ g4.objs.size := by
    rw [sz4, hDe, sz1]
    exact Nat.ne_of_lt (by omega)
  have hS : s.heap.objs.size ≤ g4.objs.size := by
    rw [sz4]
    omega
  have kp5 : ∀ b o, s.heap.get? b = some o → (g4.push (seqObj "list" #[] 0)).get? b = some o := fun b o z => by
    rw [hg4]
    exact Heap.get?_push_of_some _ (Heap.get?_push_of_some _ (kp3 b o z))
  have L : Lp X H s D g4.objs.size e1 [] H [] 0 { s with heap := g4.push (seqObj "list" #[] 0) } :=
    ⟨rfl, I.bare, Un.kept kp5, I.hok.kept kp5, fun _ _ z => z, I.hok.fresh hD, I.hok.fresh hS, by
      rw [hg4]
      exact Heap.get?_push_of_some _ (Heap.get?_push_of_some _ aD3), Heap.get?_push_size _ rfl, .nil⟩
  rw [← hg4]
  refine L.run I F hr hb hx hDS hD hS hz fun xs' s3 H3 p1 p2 ex nD J => ⟨_, rfl, wpAny_pure ⟨_, rfl, ?_⟩⟩
  exact ⟨V.ref D, _, J, rfl, q xs' D H3 p1 p2 ex nD⟩
end
end HsSort

/-! ## HsBase -/
set_option maxRecDepth 100000
set_option maxHeartbeats 4000000
/-! the text, the heap, the promises -/
namespace HsP
open PySem PySem.Spec PyProof.Rows L2
open HsSort (ShAt spRank)
open Hs (Sh far RLe PicOk toPic rowd full Ranked oneN keepW goes shownL Good S Cl)
/-! ### the text -/
def topS (i : Nat) : Stmt := PySem.Challenge.pw_heldstill_s01_answers.main.body.getD i (.Pass ⟨0, 0, 0, 0⟩)
abbrev sSizes : Stmt := topS 4
abbrev sRank : Stmt := topS 5
abbrev sShifts : Stmt := topS 6
abbrev sRow : Stmt := topS 7
abbrev sFInit : Stmt := inClass (topS 8) 0
abbrev sCost : Stmt := inClass (topS 8) 1
abbrev sFound : Stmt := inClass (topS 8) 2
abbrev sRefusal : Stmt := topS 11
abbrev sOne : Stmt := topS 12
abbrev sKeep : Stmt := topS 13
abbrev sHInit : Stmt := inClass (topS 14) 0
abbrev sForget : Stmt := inClass (topS 14) 1
abbrev sBegin : Stmt := inClass (topS 14) 2
abbrev sFrame : Stmt := inClass (topS 14) 3
abbrev sWhere : Stmt := inClass (topS 14) 4
abbrev sFollow : Stmt := inClass (topS 14) 5
abbrev sGives : Stmt := inClass (topS 14) 6
abbrev sShown : Stmt := inClass (topS 14) 7
abbrev sLen : Stmt := topS 21
abbrev sCall : Stmt := topS 22
abbrev sAns : Stmt := topS 23
/-! ### the heap -/
def fF (w h r : Nat) (sh : Addr) : List (Str × V) := [("width", .int w), ("height", .int h), ("reach", .int r), ("shifts", .ref sh)]
def h5 (w h m sl fin : V) : List (Str × V) := [("width", w), ("height", h), ("margin", m), ("slow", sl), ("finder", fin)]
def h6 (bef pics mx my left top : V) : List (Str × V) := [("before", bef), ("pictures", pics), ("moved_x", mx), ("moved_y", my), ("left", left), ("top", top)]
def hF (w h m sl fin bef pics mx my left top : V) : List (Str × V) :=
  [("width", w), ("height", h), ("margin", m), ("slow", sl), ("finder", fin), ("before", bef), ("pictures", pics), ("moved_x", mx), ("moved_y", my), ("left", left), ("top", top)]
theorem hF_len {w h m sl fin bef pics mx my left top : V} : (hF w h m sl fin bef pics mx my left top).length = 11 := rfl
theorem fF_len {w h r : Nat} {sh : Addr} : (fF w h r sh).length = 4 := rfl
section
variable {w h m sl fin bef pics mx my left top y : V}
theorem lw : (hF w h m sl fin bef pics mx my left top).lookup ("width" : Str) = some w := by kernel_rfl
theorem lh : (hF w h m sl fin bef pics mx my left top).lookup ("height" : Str) = some h := by kernel_rfl
theorem lm : (hF w h m sl fin bef pics mx my left top).lookup ("margin" : Str) = some m := by kernel_rfl
theorem lsl : (hF w h m sl fin bef pics mx my left top).lookup ("slow" : Str) = some sl := by kernel_rfl
theorem lfin : (hF w h m sl fin bef pics mx my left top).lookup ("finder" : Str) = some fin := by kernel_rfl
theorem lbef : (hF w h m sl fin bef pics mx my left top).lookup ("before" : Str) = some bef := by kernel_rfl
theorem lpics : (hF w h m sl fin bef pics mx my left top).lookup ("pictures" : Str) = some pics := by kernel_rfl
theorem lmx : (hF w h m sl fin bef pics mx my left top).lookup ("moved_x" : Str) = some mx := by kernel_rfl
theorem lmy : (hF w h m sl fin bef pics mx my left top).lookup ("moved_y" : Str) = some my := by kernel_rfl
theorem lleft : (hF w h m sl fin bef pics mx my left top).lookup ("left" : Str) = some left := by kernel_rfl
theorem ltop : (hF w h m sl fin bef pics mx my left top).lookup ("top" : Str) = some top := by kernel_rfl
theorem pw : putF "width" y (hF w h m sl fin bef pics mx my left top) = hF y h m sl fin bef pics mx my left top := by kernel_rfl
theorem ph : putF "height" y (hF w h m sl fin bef pics mx my left top) = hF w y m sl fin bef pics mx my left top := by kernel_rfl
theorem pm : putF "margin" y (hF w h m sl fin bef pics mx my left top) = hF w h y sl fin bef pics mx my left top := by kernel_rfl
theorem psl : putF "slow" y (hF w h m sl fin bef pics mx my left top) = hF w h m y fin bef pics mx my left top := by kernel_rfl
theorem pfin : putF "finder" y (hF w h m sl fin bef pics mx my left top) = hF w h m sl y bef pics mx my left top := by kernel_rfl
theorem pbef : putF "before" y (hF w h m sl fin bef pics mx my left top) = hF w h m sl fin y pics mx my left top := by kernel_rfl
theorem ppics : putF "pictures" y (hF w h m sl fin bef pics mx my left top) = hF w h m sl fin bef y mx my left top := by kernel_rfl
theorem pmx : putF "moved_x" y (hF w h m sl fin bef pics mx my left top) = hF w h m sl fin bef pics y my left top := by kernel_rfl
theorem pmy : putF "moved_y" y (hF w h m sl fin bef pics mx my left top) = hF w h m sl fin bef pics mx y left top := by kernel_rfl
theorem pleft : putF "left" y (hF w h m sl fin bef pics mx my left top) = hF w h m sl fin bef pics mx my y top := by kernel_rfl
theorem ptop : putF "top" y (hF w h m sl fin bef pics mx my left top) = hF w h m sl fin bef pics mx my left y := by kernel_rfl
end
section
variable {w h r : Nat} {sh : Addr}
theorem fw : (fF w h r sh).lookup ("width" : Str) = some (.int w) := by kernel_rfl
theorem fh : (fF w h r sh).lookup ("height" : Str) = some (.int h) := by kernel_rfl
theorem fr : (fF w h r sh).lookup ("reach" : Str) = some (.int r) := by kernel_rfl
theorem fsh : (fF w h r sh).lookup ("shifts" : Str) = some (.ref sh) := by kernel_rfl
end
/-- all but what is at a -/
abbrev Kp (H H' : Hp) (a : Addr) : Prop := ∀ b o, H b = some o → b ≠ a → H' b = some o
theorem Kp.at {H H' : Hp} {a b : Addr} {oa ob : HO} (k : Kp H H' a) (ha : H a = some oa) (hb : H b = some ob) (d : ob ≠ oa) : H' b = some ob := k b ob hb (ne_of hb ha d)
theorem same_upd {H : Hp} {p : Addr} {o : HO} (n : H p = none) : Same H (upd H p o) := fun b x e => by
  rw [upd_ne (ne_of_none e n)]
  exact e
def FinAt (CF : Addr) (H : Hp) (b : Addr) (w h r : Nat) : Prop := ∃ (dx sh : Addr) (xs : List (Addr × Sh)), H b = some (.ins CF dx (fF w h r sh)) ∧ H sh = some (.lst (xs.map fun p => V.ref p.1)) ∧ (∀ p ∈ xs, ShAt H p) ∧ Ranked r (xs.map (·.2))
theorem FinAt.same {CF : Addr} {H H' : Hp} {b : Addr} {w h r : Nat} (f : FinAt CF H b w h r) (s : Same H H') : FinAt CF H' b w h r := by
  obtain ⟨dx, sh, xs, e1, e2, e3, e4⟩ := f
  exact ⟨dx, sh, xs, s _ _ e1, s _ _ e2, fun p hp => ⟨s _ _ (e3 p hp).1, (e3 p hp).2⟩, e4⟩
theorem FinAt.keep {CF CH dx a : Addr} {H H' : Hp} {b : Addr} {w h r : Nat} {fs : List (Str × V)} (f : FinAt CF H b w h r) (k : Kp H H' a) (ha : H a = some (.ins CH dx fs)) (hl : fs.length ≠ 4) : FinAt CF H' b w h r := by
  obtain ⟨dx, sh, xs, e1, e2, e3, e4⟩ := f
  exact ⟨dx, sh, xs, k.at ha e1 (fun z => by cases z; exact hl rfl), k.at ha e2 (by intro z; cases z), fun p hp => ⟨k.at ha (e3 p hp).1 (by intro z; cases z), (e3 p hp).2⟩, e4⟩
def BefAt (H : Hp) (v : V) (w h : Nat) : Option Kh288.Pic → Prop
  | none => v = .non
  | some q => ∃ (p : Addr) (l : List Int), v = .ref p ∧ H p = some (.lst (l.map V.int)) ∧ PicOk w h l ∧ q = toPic w h l
theorem BefAt.keep {H H' : Hp} {v : V} {w h : Nat} {a C dx : Addr} {fs : List (Str × V)} (k : Kp H H' a) (ha : H a = some (.ins C dx fs)) : ∀ {q : Option Kh288.Pic}, BefAt H v w h q → BefAt H' v w h q
  | none, e => e
  | some q, e => by
    obtain ⟨p, l, e1, e2, e3, e4⟩ := e
    exact ⟨p, l, e1, k.at ha e2 (by intro z; cases z), e3, e4⟩
theorem BefAt.same {H H' : Hp} {v : V} {w h : Nat} (k : Same H H') : ∀ {q : Option Kh288.Pic}, BefAt H v w h q → BefAt H' v w h q
  | none, e => e
  | some q, e => by
    obtain ⟨p, l, e1, e2, e3, e4⟩ := e
    exact ⟨p, l, e1, k _ _ e2, e3, e4⟩
def zF (z : Kh289.Abs) (fin : Addr) (bef : V) : List (Str × V) := hF (.int z.set.w) (.int z.set.h) (.int z.set.m) (.int z.set.slow) (.ref fin) bef (.int z.many) (.int z.dx) (.int z.dy) (.int z.x) (.int z.y)
def noF : List (Str × V) := hF .non .non .non (.int 0) .non .non (.int 0) (.int 0) (.int 0) .non .non
/-- the object: in the state s; g is an address that it does not hold (the list that answers fills) -/
def HoldAt (CF CH g : Addr) (H : Hp) (a : Addr) : S → Prop
  | none => ∃ dx, H a = some (.ins CH dx noF)
  | some z => ∃ (dx fin : Addr) (bef : V), H a = some (.ins CH dx (zF z fin bef)) ∧ FinAt CF H fin z.set.w z.set.h z.set.r ∧ BefAt H bef z.set.w z.set.h z.last ∧ bef ≠ .ref g
theorem HoldAt.any {CF CH g : Addr} {H : Hp} {a : Addr} : ∀ {s : S}, HoldAt CF CH g H a s → ∃ dx w h m sl fin bef pics mx my left top, H a = some (.ins CH dx (hF w h m sl fin bef pics mx my left top))
  | none, ⟨dx, e⟩ => ⟨dx, _, _, _, _, _, _, _, _, _, _, _, e⟩
  | some z, ⟨dx, fin, bef, e, _⟩ => ⟨dx, _, _, _, _, _, _, _, _, _, _, _, e⟩
theorem HoldAt.same {CF CH g : Addr} {H H' : Hp} {a : Addr} (k : Same H H') : ∀ {s : S}, HoldAt CF CH g H a s → HoldAt CF CH g H' a s
  | none, ⟨dx, e⟩ => ⟨dx, k _ _ e⟩
  | some z, ⟨dx, fin, bef, e, f, b, n⟩ => ⟨dx, fin, bef, k _ _ e, f.same k, b.same k, n⟩
theorem Ranked.ne {r : Nat} {ds : List Sh} (k : Ranked r ds) : ds ≠ [] := fun e => by
  have z : ((0, 0) : Sh) ∈ Kh288.shifts r := Hs.mem_shifts.mpr ⟨Nat.zero_le _, Nat.zero_le _⟩
  have z2 := k.perm.mem_iff.mpr z
  rw [e] at z2
  cases z2
/-- the list at g is filled: the object stands -/
theorem HoldAt.keepG {CF CH g : Addr} {H H' : Hp} {a : Addr} {ns : List Int} (k : Kp H H' g) (hg : H g = some (.lst (ns.map V.int))) : ∀ {s : S}, HoldAt CF CH g H a s → HoldAt CF CH g H' a s
  | none, ⟨dx, e⟩ => ⟨dx, k.at hg e (by intro z; cases z)⟩
  | some z, ⟨dx, fin, bef, e, ⟨dxf, sh, xs, f1, f2, f3, f4⟩, b, n⟩ => by
    refine ⟨dx, fin, bef, k.at hg e (by intro z; cases z), ⟨dxf, sh, xs, k.at hg f1 (by intro z; cases z), k.at hg f2 ?_, fun p hp => ⟨k.at hg (f3 p hp).1 (by intro z; cases z), (f3 p hp).2⟩, f4⟩, ?_, n⟩
    · intro e
      injection e with e
      cases xs with
      | nil => exact Ranked.ne f4 rfl
      | cons p xs =>
        cases ns with
        | nil => cases e
        | cons i ns =>
          rw [List.map_cons, List.map_cons] at e
          injection e with e1 e2
          cases e1
    · cases hl : z.last with
      | none =>
        rw [hl] at b
        exact b
      | some q =>
        rw [hl] at b
        obtain ⟨p, l, e1, e2, e3, e4⟩ := b
        exact ⟨p, l, e1, k _ _ e2 (fun x => n (by rw [e1, x])), e3, e4⟩
theorem relI (i : Int) (t : Tok) : RelV (.int i) (.int i t) := ⟨t, rfl⟩
theorem relR (a : Addr) : RelV (.ref a) (.ref a) := rfl
/-- a statement and the rest of its block, with a word M of slots and heap that stands between them -/
def tMid (t u : TS) : TS := fun D σ H => ∃ M : L2.St → Hp → Prop, t { D with nx := M } σ H ∧ ∀ (σ1 : L2.St) (H1 : Hp), M σ1 H1 → u D σ1 H1
theorem pss_mid {X : Cx} {st : Stmt} {r : List Stmt} {t u : TS} (a : PS X st t) (b : PSs X r u) : PSs X (st :: r) (tMid t u) where
  run := by
    rintro pins s σ H D I ⟨M, hM, hr⟩
    refine wpAny_execs_cons (thn (a.run pins s σ H { D with nx := M } I hM) ?_)
    intro f s1 q
    match f, q with
    | .next, q =>
      obtain ⟨σ1, H1, J, q1⟩ := q
      exact b.run pins s1 σ1 H1 D J (hr σ1 H1 q1)
    | .ret v, q => exact q
    | .brk, q => exact q
    | .cont, q => exact q
/-! ### the promises -/
section
variable (K : PySem.W.Frag) (CF CH : Addr)
def spSizes : Sp := fun vs H Q _ => ∃ w h r : Int, vs = [.int w, .int h, .int r] ∧ 0 ≤ w ∧ 0 ≤ h ∧ 0 ≤ r ∧ Q (.bl (Kh288.okSize w.toNat h.toNat r.toNat)) H
def spShifts : Sp := fun vs H Q _ => ∃ r : Nat, vs = [.int r] ∧ r ≤ 8 ∧ ∀ (p : Addr) (xs : List (Addr × Sh)) (H' : Hp), Same H H' → H p = none → H' p = some (.lst (xs.map fun p => V.ref p.1)) → (∀ p ∈ xs, ShAt H' p) → Ranked r (xs.map (·.2)) → Q (.ref p) H'
def spRow : Sp := fun vs H Q _ => ∃ (a b : Addr) (xs ys : List Int), vs = [.ref a, .ref b] ∧ H a = some (.lst (xs.map V.int)) ∧ H b = some (.lst (ys.map V.int)) ∧ xs.length ≤ 1000 ∧ ∀ H', Same H H' → Q (.int (rowd xs ys)) H'
def spFInit : Sp := fun vs H Q _ => ∃ (p dx : Addr) (w h r : Nat), vs = [.ref p, .int w, .int h, .int r] ∧ H p = some (.ins CF dx []) ∧ r ≤ 8 ∧ ∀ H', FinAt CF H' p w h r → Kp H H' p → Q .non H'
structure Sizes (w h r : Nat) : Prop where
  r8 : r ≤ 8
  w1 : 2 * r + 1 ≤ w
  w2 : w ≤ 256
  h1 : 2 * r + 1 ≤ h
  h2 : h ≤ 256
def spCost : Sp := fun vs H Q _ => ∃ (f b a dx sh : Addr) (p : Addr × Sh) (en : Int) (w h r : Nat) (lb la : List Int), vs = [.ref f, .ref b, .ref a, .ref p.1, .int en] ∧ H f = some (.ins CF dx (fF w h r sh)) ∧ H b = some (.lst (lb.map V.int)) ∧ H a = some (.lst (la.map V.int)) ∧
  ShAt H p ∧ p.2.1.natAbs ≤ r ∧ p.2.2.natAbs ≤ r ∧ Sizes w h r ∧ PicOk w h lb ∧ PicOk w h la ∧
  ∀ (c : Int) (H' : Hp), Same H H' → (c = full w h r lb la p.2 ∨ (en ≤ c ∧ en ≤ full w h r lb la p.2)) → Q (.int c) H'
def spFound : Sp := fun vs H Q _ => ∃ (f b a : Addr) (w h r : Nat) (lb la : List Int), vs = [.ref f, .ref b, .ref a] ∧ FinAt CF H f w h r ∧ H b = some (.lst (lb.map V.int)) ∧ H a = some (.lst (la.map V.int)) ∧ Sizes w h r ∧ PicOk w h lb ∧ PicOk w h la ∧
  ∀ (t : Addr) (H' : Hp), Same H H' → H' t = some (.tup [.int (Kh288.find (toPic w h lb) (toPic w h la) r).2.1, .int (Kh288.find (toPic w h lb) (toPic w h la) r).2.2]) → Q (.ref t) H'
def spRefusal : Sp := fun vs H Q _ => vs = [] ∧ ∀ p, H p = none → Q (.ref p) (upd H p (.lst [.int (-22)]))
def spOne : Sp := fun vs H Q _ => ∃ v m : Int, vs = [.int v, .int m] ∧ Q (.int (oneN v m)) H
def spKeep : Sp := fun vs H Q _ => ∃ v m : Int, vs = [.int v, .int m] ∧ Q (.int (keepW v m)) H
def spHInit : Sp := fun vs H Q _ => ∃ (p dx : Addr), vs = [.ref p] ∧ H p = some (.ins CH dx []) ∧ ∀ H', H' p = some (.ins CH dx noF) → Kp H H' p → Q .non H'
def spForget : Sp := fun vs H Q _ => ∃ (a dx : Addr) (w h m sl fin : V) (rest : List (Str × V)), vs = [.ref a] ∧ H a = some (.ins CH dx (h5 w h m sl fin ++ rest)) ∧ (rest = [] ∨ ∃ b p x y l t, rest = h6 b p x y l t) ∧
  ∀ H', H' = upd H a (.ins CH dx (hF w h m sl fin .non (.int 0) (.int 0) (.int 0) m m)) → Q .non H'
/-- a call is done: the object is in s', the list ans is handed back -/
def Done (g a : Addr) (st : S × List Int) (H : Hp) (Q : VK) : Prop := ∀ (H' : Hp) (p : Addr), HoldAt CF CH g H' a st.1 → Kp H H' a → H p = none → H' p = some (.lst (st.2.map V.int)) → Q (.ref p) H'
def spBegin : Sp := fun vs H Q _ => ∃ (g a : Addr) (s : S) (w h r m sl : Int), vs = [.ref a, .int w, .int h, .int r, .int m, .int sl] ∧ HoldAt CF CH g H a s ∧ 0 ≤ w ∧ 0 ≤ h ∧ 0 ≤ r ∧ 0 ≤ m ∧ 0 ≤ sl ∧
  Done CF CH g a (Kh289Neutral.step s [[0, w, h, r, m, sl]]) H Q
def spFrame : Sp := fun vs H Q _ => ∃ (g a b : Addr) (z : Kh289.Abs) (w h m : Int) (l : List Int), vs = [.ref a, .int w, .int h, .int m, .ref b] ∧ b ≠ g ∧ HoldAt CF CH g H a (some z) ∧ Good z ∧ H b = some (.lst (l.map V.int)) ∧ 0 ≤ w ∧ 0 ≤ h ∧ 0 ≤ m ∧
  (w.toNat = z.set.w → h.toNat = z.set.h → PicOk z.set.w z.set.h l) ∧ Done CF CH g a (Kh289Neutral.step (some z) [[1, w, h, m], l]) H Q
def spWhere : Sp := fun vs H Q _ => ∃ (g a : Addr) (z : Kh289.Abs), vs = [.ref a] ∧ HoldAt CF CH g H a (some z) ∧ Done CF CH g a (Kh289Neutral.step (some z) [[2]]) H Q
def spFollow : Sp := fun vs H Q _ => ∃ (a b dx fin : Addr) (bef : V) (z : Kh289.Abs) (q : Kh288.Pic) (l : List Int), vs = [.ref a, .ref b] ∧ H a = some (.ins CH dx (zF z fin bef)) ∧ FinAt CF H fin z.set.w z.set.h z.set.r ∧ BefAt H bef z.set.w z.set.h (some q) ∧
  Sizes z.set.w z.set.h z.set.r ∧ H b = some (.lst (l.map V.int)) ∧ PicOk z.set.w z.set.h l ∧
  ∀ H', Kp H H' a → H' a = some (.ins CH dx (hF (.int z.set.w) (.int z.set.h) (.int z.set.m) (.int z.set.slow) (.ref fin) bef (.int z.many) (.int (z.dx + (Hs.shiftOf z q (toPic z.set.w z.set.h l)).1)) (.int (z.dy + (Hs.shiftOf z q (toPic z.set.w z.set.h l)).2))
    (.int (Hs.keptX z (Hs.shiftOf z q (toPic z.set.w z.set.h l)))) (.int (Hs.keptY z (Hs.shiftOf z q (toPic z.set.w z.set.h l)))))) → Q (.int (Hs.told z (Hs.shiftOf z q (toPic z.set.w z.set.h l)))) H'
def spGives : Sp := fun vs H Q _ => ∃ (a dx : Addr) (w h m fin bef mx my left top : V) (z : Kh289.Abs), vs = [.ref a] ∧ H a = some (.ins CH dx (hF w h m (.int z.set.slow) fin bef (.int z.many) mx my left top)) ∧ Q (.bl (goes z)) H
def spShown : Sp := fun vs H Q _ => ∃ (a b dx : Addr) (w h m : Nat) (sl fin bef pics mx my : V) (x y : Int) (l : List Int), vs = [.ref a, .ref b] ∧ H a = some (.ins CH dx (hF (.int w) (.int h) (.int m) sl fin bef pics mx my (.int x) (.int y))) ∧ H b = some (.lst (l.map V.int)) ∧
  PicOk w h l ∧ w ≤ 256 ∧ h ≤ 256 ∧ 2 * m < w ∧ 2 * m < h ∧ 0 ≤ x ∧ x ≤ 2 * m ∧ 0 ≤ y ∧ y ≤ 2 * m ∧ ∀ (H' : Hp) (p : Addr), Same H H' → H p = none → H' p = some (.lst ((shownL w m x y l (h - 2 * m)).map V.int)) → Q (.ref p) H'
/-- the numbers of one call -/
inductive CallL : List Int → Cl → Prop
  | beg (w h r m s : Int) : CallL [0, w, h, r, m, s] [[0, w, h, r, m, s]]
  | frm (w h m n : Int) (b : List Int) : CallL (1 :: w :: h :: m :: n :: b) [[1, w, h, m], b]
  | whr : CallL [2] [[2]]
def spLen : Sp := fun vs H Q _ => ∃ (c : Addr) (i : Nat) (l t : List Int) (cl : Cl), vs = [.ref c, .int i] ∧ SqL K H c (l.map V.int) ∧ l.length ≤ 30000 ∧ Hs.Front (l.drop i) cl t ∧
  ∀ n : Nat, i + n ≤ l.length → 0 < n → t = l.drop (i + n) → CallL ((l.drop i).take n) cl → Q (.int n) H
def spCall : Sp := fun vs H Q _ => ∃ (g a c : Addr) (s : S) (l : List Int) (cl : Cl), vs = [.ref a, .ref c] ∧ (∃ o, H g = some o) ∧ HoldAt CF CH g H a s ∧ H c = some (.lst (l.map V.int)) ∧ CallL l cl ∧ (∀ z, s = some z → Good z) ∧ Kh289Neutral.asked1 cl = true ∧ (s.isSome || (cl.getD 0 []).headD 9 == 0) = true ∧
  Done CF CH g a (Kh289Neutral.step s cl) H Q
def spAns : Sp := fun vs H Q _ => ∃ (c : Addr) (l : List Int), vs = [.ref c] ∧ SqL K H c (l.map V.int) ∧ l.length ≤ 30000 ∧ PyKh289.answers_asked l = true ∧ ∀ (H' : Hp) (p : Addr), H' p = some (.lst ((PyKh289.answers l).map V.int)) → Q (.ref p) H'
end
/-! ### what the top has written -/
structure Txt (K : PySem.W.Frag) (mg : Str → Option Value) (CF CH : Addr) : Prop where
  cF : Cls K CF
  cH : Cls K CH
  Fw : NoAttr K CF "width"
  Fh : NoAttr K CF "height"
  Fr : NoAttr K CF "reach"
  Fs : NoAttr K CF "shifts"
  Hw : NoAttr K CH "width"
  Hh : NoAttr K CH "height"
  Hm : NoAttr K CH "margin"
  Hsl : NoAttr K CH "slow"
  Hfin : NoAttr K CH "finder"
  Hbef : NoAttr K CH "before"
  Hpics : NoAttr K CH "pictures"
  Hmx : NoAttr K CH "moved_x"
  Hmy : NoAttr K CH "moved_y"
  Hleft : NoAttr K CH "left"
  Htop : NoAttr K CH "top"
  gF : mg "Finder" = some (.ref CF)
  gH : mg "Hold" = some (.ref CH)
  g1 : ∃ t, mg "MOST_REACH" = some (.int 8 t)
  g2 : ∃ t, mg "MOST_SIZE" = some (.int 256 t)
  g3 : ∃ t, mg "LIGHTEST" = some (.int 255 t)
  g4 : ∃ t, mg "MOST_SLOW" = some (.int 65535 t)
  g5 : ∃ t, mg "BEGIN" = some (.int 0 t)
  g6 : ∃ t, mg "FRAME" = some (.int 1 t)
  g7 : ∃ t, mg "BEGIN_LENGTH" = some (.int 6 t)
  g8 : ∃ t, mg "FRAME_HEAD" = some (.int 5 t)
  g9 : ∃ t, mg "WHERE_LENGTH" = some (.int 1 t)
  nRange : mg "range" = none
  nSorted : mg "sorted" = none
  nSum : mg "sum" = none
  nAbs : mg "abs" = none
  nZip : mg "zip" = none
  nLen : mg "len" = none
  nMax : mg "max" = none
  nMin : mg "min" = none
end HsP

/-! ## HsD1 -/
set_option maxRecDepth 100000
set_option maxHeartbeats 4000000
namespace HsP
open PySem PySem.Spec PyProof.Rows L2
open HsSort (ShAt spRank)
open Hs (Sh far RLe PicOk toPic rowd full Ranked oneN keepW goes shownL Good S Cl)
section
variable {P : Program} {w : World} {K : PySem.W.Frag} {mg : Str → Option Value} {base : Heap} {CF CH : Addr}
theorem scSizes : FnScope ["width", "height", "reach", "least"] ["width", "height", "reach"] (defScope sSizes) := ⟨rfl, rfl, rfl, by decide +kernel, rfl, by decide +kernel, by decide +kernel⟩
theorem ok_sizes {f : Addr} {fd : FuncData} (F : Fun K "sizes_are_right" "sizes_are_right" sSizes f fd) (T : Txt K mg CF CH) : FnOk P w K mg base CX0 1 f fd ["width", "height", "reach"] spSizes := by
  obtain ⟨t1, g1⟩ := T.g1
  obtain ⟨t2, g2⟩ := T.g2
  refine F.ok scSizes (fun vs H Q E h => ?_) (fun cdv A outer s H vs Q E hr h => ?_)
  · obtain ⟨w, h, r, rfl, _⟩ := h
    rfl
  · obtain ⟨w, h, r, rfl, w0, h0, r0, q⟩ := h
    refine ⟨_, pss_cons (ps_if (pt_cmpR op_gt (pv 2) (pe_glob rfl g1 (relI 8 t1)) (nomark _)) (pss_one (ps_ret pe_bl)) pss_nil)
      (pss_cons (ps_set (i := 3) scSizes.nd rfl (.inl rfl) (pe_op op_add (pe_op op_mul pe_int (pv 2)) pe_int))
      (pss_one (ps_ret (pe_and (pe_chain op_le op_le (pv 3) (pv 0) (pe_glob rfl g2 (relI 256 t2))) (pe_one (pe_chain op_le op_le (pv 3) (pv 1) (pe_glob rfl g2 (relI 256 t2)))))))), ?_⟩
    refine ⟨_, rfl, _, _, rfl, rfl, _, rfl, ite2 (fun e => ?_) (fun e => ?_)⟩
    · have e' : (8 : Int) < r := of_decide_eq_true e
      have z : Kh288.okSize w.toNat h.toNat r.toNat = false := by
        cases q2 : Kh288.okSize w.toNat h.toNat r.toNat with
        | false => rfl
        | true =>
          have := Hs.okSize_iff.mp q2
          omega
      rw [z] at q
      exact q
    · have e' : ¬ (8 : Int) < r := fun z => e (decide_eq_true z)
      refine ⟨_, rfl, _, _, rfl, rfl, .inl ⟨by decide, by decide⟩, _, _, rfl, rfl, ?_⟩
      have fin : ∀ c : Bool, (c = true ↔ Kh288.okSize w.toNat h.toNat r.toNat = true) → Q (.bl c) H := fun c hc => by
        have ec : c = Kh288.okSize w.toNat h.toNat r.toNat := by
          cases c <;> cases q2 : Kh288.okSize w.toNat h.toNat r.toNat <;> simp_all
        rw [ec]
        exact q
      have no : ¬ ((2 * r + 1 ≤ w ∧ w ≤ 256) ∧ 2 * r + 1 ≤ h ∧ h ≤ 256) → Q (.bl false) H := fun z => fin false ⟨(fun e => by cases e), fun e => by
        have := Hs.okSize_iff.mp e
        exact absurd ⟨⟨by omega, by omega⟩, by omega, by omega⟩ z⟩
      refine ⟨_, rfl, _, rfl, _, _, rfl, rfl, _, rfl, ite2 (fun a1 => ?_) (fun a1 => ?_)⟩
      · have b1 : 2 * r + 1 ≤ w := of_decide_eq_true a1
        refine ⟨_, _, rfl, rfl, _, rfl, ite2 (fun a2 => ?_) (fun a2 => ?_)⟩
        · have b2 : w ≤ 256 := of_decide_eq_true a2
          refine ⟨_, rfl, _, rfl, _, _, rfl, rfl, _, rfl, ite2 (fun a3 => ?_) (fun a3 => ?_)⟩
          · have b3 : 2 * r + 1 ≤ h := of_decide_eq_true a3
            refine ⟨_, _, rfl, rfl, fin _ ⟨fun e => ?_, fun e => ?_⟩⟩
            · have b4 : h ≤ 256 := of_decide_eq_true e
              exact Hs.okSize_iff.mpr ⟨by omega, by omega, by omega, by omega, by omega⟩
            · have := Hs.okSize_iff.mp e
              exact decide_eq_true (by omega)
          · exact no fun z => a3 (decide_eq_true z.2.1)
        · exact no fun z => a2 (decide_eq_true z.1.2)
      · exact ⟨_, rfl, no fun z => a1 (decide_eq_true z.1.1)⟩
/-! ### shift_rank -/
theorem scRank : FnScope ["shift", "dx", "dy"] ["shift"] (defScope sRank) := ⟨rfl, rfl, rfl, by decide +kernel, rfl, by decide +kernel, by decide +kernel⟩
theorem ok_rank {f : Addr} {fd : FuncData} (F : Fun K "shift_rank" "shift_rank" sRank f fd) : FnOk P w K mg base CX0 1 f fd ["shift"] spRank := by
  refine F.ok scRank (fun vs H Q E h => ?_) (fun cdv A outer s H vs Q E hr h => ?_)
  · obtain ⟨t, d, rfl, _⟩ := h
    rfl
  · obtain ⟨t, d, rfl, ht, d1, d2, q⟩ := h
    refine ⟨_, pss_cons (ps_set (i := 1) scRank.nd rfl (.inl rfl) (pe_ix ix_tup (pv 0) pe_int (fun _ _ => rfl)))
      (pss_cons (ps_set (i := 2) scRank.nd rfl (.inl rfl) (pe_ix ix_tup (pv 0) pe_int (fun _ _ => rfl)))
      (pss_one (ps_ret (pe_tup (pa_cons (pe_op op_add (pe_op op_mul (pv 1) (pv 1)) (pe_op op_mul (pv 2) (pv 2))) (pa_cons (pv 2) (pa_cons (pv 1) pa_nil))))))), ?_⟩
    refine ⟨_, rfl, t, _, 0, .int d.1, rfl, rfl, SqT.of ht, atI_nat (j := 0) rfl, ?_⟩
    refine ⟨_, rfl, t, _, 1, .int d.2, rfl, rfl, SqT.of ht, atI_nat (j := 1) rfl, ?_⟩
    refine ⟨_, rfl, _, rfl, _, _, rfl, rfl, .inl ⟨by omega, by omega⟩, _, rfl, _, rfl, _, _, rfl, rfl, .inl ⟨by omega, by omega⟩, _, _, rfl, rfl, _, rfl, _, rfl, (by show 3 ≤ sizeLine; decide), fun p np => ?_⟩
    exact q p np
end
end HsP

/-! ## HsD2 -/
set_option maxRecDepth 100000
set_option maxHeartbeats 4000000
namespace HsP
open PySem PySem.Spec PyProof.Rows L2
open HsSort (ShAt spRank)
open Hs (Sh far RLe PicOk toPic rowd full Ranked oneN keepW goes shownL Good S Cl)
/-! ### all shifts, as the loops meet them -/
def rowN (r j i : Nat) : List Sh := (List.range i).map fun i : Nat => ((i : Int) - r, (j : Int) - r)
def gridN (r j : Nat) : List Sh := (List.range j).flatMap fun j => rowN r j (2 * r + 1)
theorem rowN_succ (r j i : Nat) : rowN r j (i + 1) = rowN r j i ++ [((i : Int) - r, (j : Int) - r)] := by
  unfold rowN
  rw [List.range_succ, List.map_append]
  rfl
theorem gridN_succ (r j : Nat) : gridN r (j + 1) = gridN r j ++ rowN r j (2 * r + 1) := by
  unfold gridN
  rw [List.range_succ, List.flatMap_append]
  simp
theorem gridN_all (r : Nat) : gridN r (2 * r + 1) = Kh288.shifts r := rfl
theorem rowN_len (r j i : Nat) : (rowN r j i).length = i := by
  unfold rowN
  rw [List.length_map, List.length_range]
theorem gridN_len (r : Nat) : ∀ j, (gridN r j).length = j * (2 * r + 1)
  | 0 => by
    rw [Nat.zero_mul]
    rfl
  | j + 1 => by
    rw [gridN_succ, List.length_append, gridN_len r j, rowN_len, Nat.succ_mul j]
section
variable {P : Program} {w : World} {K : PySem.W.Frag} {mg : Str → Option Value} {base : Heap} {CF CH : Addr}
theorem scShifts : FnScope ["reach", "shifts", "dy", "dx"] ["reach"] (defScope sShifts) := ⟨rfl, rfl, rfl, by decide +kernel, rfl, by decide +kernel, by decide +kernel⟩
/-- the list under way -/
structure Grid (H0 H : Hp) (o : Addr) (ds : List Sh) (xs : List (Addr × Sh)) : Prop where
  same : Same H0 H
  at_ : H o = some (.lst (xs.map fun p => V.ref p.1))
  all : ∀ p ∈ xs, ShAt H p
  eq : xs.map (·.2) = ds
theorem Grid.more {H0 H : Hp} {o t : Addr} {ds : List Sh} {xs : List (Addr × Sh)} {d : Sh} (g : Grid H0 H o ds xs) (no : H0 o = none) (nt : H t = none) (h1 : d.1.natAbs ≤ 8) (h2 : d.2.natAbs ≤ 8) :
    Grid H0 (upd (upd H t (.tup [.int d.1, .int d.2])) o (.lst ((xs.map fun p => V.ref p.1) ++ [.ref t]))) o (ds ++ [d]) (xs ++ [(t, d)]) := by
  have nto : o ≠ t := ne_of_none g.at_ nt
  have st : ∀ p, ShAt H p → ShAt (upd (upd H t (.tup [.int d.1, .int d.2])) o (.lst ((xs.map fun p => V.ref p.1) ++ [.ref t]))) p := fun p hp => by
    refine ⟨?_, hp.2⟩
    rw [upd_ne (ne_of hp.1 g.at_ (by intro z; cases z)), upd_ne (ne_of_none hp.1 nt)]
    exact hp.1
  refine ⟨fun b x e => ?_, ?_, fun p hp => ?_, ?_⟩
  · rw [upd_ne (ne_of_none e no)]
    exact same_upd nt b x (g.same b x e)
  · rw [upd_same, List.map_append]
    rfl
  · rcases List.mem_append.mp hp with hp | hp
    · exact st p (g.all p hp)
    · rw [List.mem_singleton.mp hp]
      exact ⟨by rw [upd_ne nto.symm, upd_same], h1, h2⟩
  · rw [List.map_append, g.eq]
    rfl
theorem ok_shifts {f fR : Addr} {fd fdR : FuncData} (F : Fun K "shifts_by_rank" "shifts_by_rank" sShifts f fd) (T : Txt K mg CF CH) (GR : FnOk P w K mg base CX0 1 fR fdR ["shift"] spRank) (bR : Binds K fdR ["shift"] []) (gR : mg "shift_rank" = some (.ref fR)) :
    FnOk P w K mg base CX0 4 f fd ["reach"] spShifts := by
  refine F.ok scShifts (fun vs H Q E h => ?_) (fun cdv A outer s H vs Q E hr h => ?_)
  · obtain ⟨r, rfl, _⟩ := h
    rfl
  · obtain ⟨r, rfl, r8, q⟩ := h
    refine ⟨_, pss_cons (ps_set (i := 1) scShifts.nd rfl (.inl rfl) (pe_lst pa_nil))
      (pss_cons (ps_for PassesOwn.never rfl (pi_range2 (by rfl) T.nRange (pa_cons (pe_un un_neg (pv 0)) (pa_cons (pe_op op_add (pv 0) pe_int) pa_nil))) (pg_name (i := 2) scShifts.nd rfl (.inl rfl))
        (pss_one (ps_for PassesOwn.never rfl (pi_range2 (by rfl) T.nRange (pa_cons (pe_un un_neg (pv 0)) (pa_cons (pe_op op_add (pv 0) pe_int) pa_nil))) (pg_name (i := 3) scShifts.nd rfl (.inl rfl))
          (pss_one (ps_expr (pe_bm PySem.F.plainAttrs_list PySem.F.slot_list_append PySem.F.type_list_append mt_append (pv 1) (pa_cons (pe_tup (pa_cons (pv 3) (pa_cons (pv 2) pa_nil))) pa_nil)))))))
      (pss_one (ps_ret (pe_callBK (HsSort.cr_sortedSh GR hr bR) (by rfl) T.nSorted (by decide +kernel) (pa_cons (pv 1) pa_nil) (pk_cons (pe_glob rfl gR (relR fR)) pk_nil))))), ?_⟩
    refine ⟨Nat.zero_le _, fun o no => ?_⟩
    have en : (((r : Int) + 1) - -(r : Int)).toNat = 2 * r + 1 := by omega
    refine ⟨_, rfl, _, rfl, _, rfl, _, _, rfl, rfl, _, _, rfl, ⟨by omega, by omega, by omega, by omega⟩, ?_⟩
    rw [en]
    refine for_range (fun j σ H' => ∃ v2 v3 xs, σ = [some (.int r), some (.ref o), v2, v3] ∧ Grid H H' o (gridN r j) xs) ⟨none, none, [], rfl, same_upd no, upd_same, (fun p hp => by cases hp), rfl⟩ ?_ ?_
    · rintro j σ H1 hj ⟨v2, v3, xs, rfl, G⟩
      refine ⟨_, rfl, _, rfl, _, rfl, _, _, rfl, rfl, _, _, rfl, ⟨by omega, by omega, by omega, by omega⟩, ?_⟩
      rw [en]
      have ej : -(r : Int) + j = (j : Int) - r := by omega
      refine for_range (fun i σ H' => ∃ v3 xs, σ = [some (.int r), some (.ref o), some (.int ((j : Int) - r)), v3] ∧ Grid H H' o (gridN r j ++ rowN r j i) xs) ⟨v3, xs, by rw [← ej]; rfl, G.same, G.at_, G.all, by rw [G.eq]; exact (List.append_nil _).symm⟩ ?_ ?_
      · rintro i σ H2 hi ⟨v3, xs, rfl, G⟩
        have ei : -(r : Int) + i = (i : Int) - r := by omega
        have hl : xs.length < 1000 := by
          have e := congrArg List.length G.eq
          rw [List.length_map, List.length_append, gridN_len, rowN_len] at e
          have : j * (2 * r + 1) ≤ 16 * 17 := Nat.mul_le_mul (by omega) (by omega)
          omega
        have zl : (1000 : Nat) < sizeLine := by decide
        refine ⟨.ref o, rfl, .inl ⟨rfl, _, SqL.of G.at_⟩, .int (-(r : Int) + i), rfl, .int ((j : Int) - r), rfl, (by show 2 ≤ sizeLine; decide), fun t nt => ?_⟩
        have nto : o ≠ t := ne_of_none G.at_ nt
        rw [ei]
        refine ⟨o, _, _, rfl, rfl, (upd_ne nto).trans G.at_, (by rw [List.length_map]; omega), ?_⟩
        refine ⟨some (.int ((i : Int) - r)), xs ++ [(t, ((i : Int) - r, (j : Int) - r))], rfl, ?_⟩
        have G2 := G.more (d := ((i : Int) - r, (j : Int) - r)) no nt (by show ((i : Int) - r).natAbs ≤ 8; omega) (by show ((j : Int) - r).natAbs ≤ 8; omega)
        rw [List.append_assoc, ← rowN_succ] at G2
        exact G2
      · rintro σ H2 ⟨v3, xs, rfl, G⟩
        rw [← gridN_succ] at G
        exact ⟨_, v3, xs, rfl, G⟩
    · rintro σ H1 ⟨v2, v3, xs, rfl, G⟩
      rw [gridN_all] at G
      have hl : xs.length ≤ 1000 := by
        have e := congrArg List.length G.eq
        rw [← gridN_all, List.length_map, gridN_len] at e
        have : (2 * r + 1) * (2 * r + 1) ≤ 17 * 17 := Nat.mul_le_mul (by omega) (by omega)
        omega
      refine ⟨.ref o, rfl, o, xs, rfl, rfl, SqL.of G.at_, G.all, hl, fun xs' p H3 p1 p2 ex np => ?_⟩
      have sm : Same H (upd H3 p (.lst (xs'.map fun p => V.ref p.1))) := fun b x e => same_upd np b x (ex b x (G.same b x e))
      have np0 : H p = none := by
        cases e : H p with
        | none => rfl
        | some x =>
          have := ex p x (G.same p x e)
          rw [np] at this
          cases this
      refine q p xs' _ sm np0 upd_same (fun u hu => ?_) ⟨?_, p2⟩
      · have hu' := G.all u (p1.mem_iff.mp hu)
        exact ⟨same_upd np _ _ (ex _ _ hu'.1), hu'.2⟩
      · have e := p1.map (·.2)
        rw [G.eq] at e
        exact e
/-! ### row_difference -/
theorem pg_pair {X : Cx} {p q pos : Pos} {k : Nat} {x y : Str} {i j : Nat} (hc : X.calm = true) (nd : X.N.Nodup) (hi : X.N[i]? = some x) (hj : X.N[j]? = some y) (lx : X.env.scope.names.lookup x = some .local) (ly : X.env.scope.names.lookup y = some .local) :
    PG X (.Tuple [.Name x p, .Name y q] k pos) (gTup X.K 2 (gCons (gName i) (gCons (gName j) gNil))) :=
  pg_tup hc (pgs_cons (pg_name nd hi (.inl lx) (.inr lx)) (pgs_cons (pg_name nd hj (.inl ly) (.inr ly)) pgs_nil))
theorem scRow : FnScope ["greys", "others", "grey", "other"] ["greys", "others"] (defScope sRow) := ⟨rfl, rfl, rfl, by decide +kernel, rfl, by decide +kernel, by decide +kernel⟩
def diffN (xs ys : List Int) : List Int := (xs.zip ys).map fun p => Hs.absI (p.1 - p.2)
theorem ok_row {f : Addr} {fd : FuncData} (F : Fun K "row_difference" "row_difference" sRow f fd) (T : Txt K mg CF CH) : FnOk P w K mg base CX0 1 f fd ["greys", "others"] spRow := by
  refine F.ok scRow (fun vs H Q E h => ?_) (fun cdv A outer s H vs Q E hr h => ?_)
  · obtain ⟨a, b, xs, ys, rfl, _⟩ := h
    rfl
  · obtain ⟨a, b, xs, ys, rfl, ha, hb, hl, q⟩ := h
    refine ⟨_, pss_one (ps_ret (pe_callB (cr_sum rfl) (by rfl) T.nSum (by decide +kernel) (pa_cons
      (pe_lc (own := [("grey", 2), ("other", 3)]) (g := gTup K 2 (gCons (gName 2) (gCons (gName 3) gNil))) (tt := tYes) rfl scRow.nd (pi_zip (by rfl) T.nZip (pa_cons (pv 0) (pa_cons (pv 1) pa_nil)))
        (blkOk_by (N := ["greys", "others", "grey", "other"]) (sc := defScope sRow) (by decide +kernel))
        ?g
        (fun _ _ _ _ _ => pts_nil)
        (fun _ _ _ _ _ => pe_callB call_abs (by rfl) T.nAbs (by decide +kernel) (pa_cons (pe_op op_sub (pv 2) (pv 3)) pa_nil))) pa_nil))), ?_⟩
    case g => exact fun _ _ _ _ _ => pg_pair (x := "grey") (y := "other") (i := 2) (j := 3) rfl scRow.nd rfl rfl rfl rfl
    refine ⟨_, rfl, _, rfl, a, b, _, _, rfl, SqL.of ha, SqL.of hb, fun D nD => ?_⟩
    have zl : (1000 : Nat) < sizeLine := by decide
    refine lc_it (walk_zip (K := K) (a := a) (b := b) (xs := xs.map V.int) (ys := ys.map V.int) rfl) (fun i H' => Same H H' ∧ H' D = some (.lst (((diffN xs ys).take i).map V.int))) ⟨same_upd nD, upd_same⟩ ?_ ?_ ?_
    · rintro i H' _ ⟨sm, _⟩
      exact ⟨SqL.of (sm _ _ ha), SqL.of (sm _ _ hb)⟩
    · rintro i v H1 H2 hi ⟨sm, eD⟩ ⟨t, x, y, rfl, nt, rfl, ex, ey⟩
      rw [List.length_map, List.length_map] at hi
      have h1 : i < xs.length := by omega
      have h2 : i < ys.length := by omega
      have ex' : x = .int xs[i] := by
        dsimp only at ex
        rw [List.getElem?_map, List.getElem?_eq_getElem h1] at ex
        exact (Option.some.inj ex).symm
      have ey' : y = .int ys[i] := by
        dsimp only at ey
        rw [List.getElem?_map, List.getElem?_eq_getElem h2] at ey
        exact (Option.some.inj ey).symm
      subst ex' ey'
      have nDt : D ≠ t := ne_of_none eD nt
      refine ⟨t, [.int xs[i], .int ys[i]], rfl, SqT.of upd_same, rfl, _, _, rfl, _, _, rfl, rfl, rfl, ?_⟩
      refine ⟨_, rfl, _, rfl, _, _, rfl, rfl, _, rfl, _, (upd_ne nDt).trans eD, ?_, ?_, ?_⟩
      · rw [List.length_map, List.length_take]
        omega
      · intro b' o e
        have nb : b' ≠ D := ne_of_none e nD
        rw [upd_ne nb]
        exact same_upd nt _ _ (sm _ _ e)
      · rw [upd_same]
        have hz : i < (xs.zip ys).length := by
          rw [List.length_zip]
          omega
        have eg : (diffN xs ys)[i]? = some (Hs.absI (xs[i] - ys[i])) := by
          unfold diffN
          rw [List.getElem?_map, List.getElem?_eq_getElem hz, List.getElem_zip]
          rfl
        rw [List.take_add_one, eg, List.map_append]
        rfl
    · rintro H1 ⟨sm, eD⟩
      have et : (diffN xs ys).take (min (xs.map V.int).length (ys.map V.int).length) = diffN xs ys := by
        refine List.take_of_length_le ?_
        unfold diffN
        rw [List.length_map, List.length_zip, List.length_map, List.length_map]
        exact Nat.le_refl _
      rw [et] at eD
      exact ⟨D, diffN xs ys, rfl, SqL.of eD, q H1 sm⟩
end
end HsP

/-! ## HsD3 -/
set_option maxRecDepth 100000
set_option maxHeartbeats 4000000
namespace HsP
open PySem PySem.Spec PyProof.Rows L2
open HsSort (ShAt spRank)
open Hs (Sh far RLe PicOk toPic rowd full part seg Ranked oneN keepW goes shownL Good S Cl)
/-- a slice that fits -/
theorem cut_fit (xs : List V) {i n : Nat} {a b : Int} (h : i + n ≤ xs.length) (ha : a = (i : Nat)) (hb : b = ((i + n : Nat) : Int)) : cutV xs (some a) (some b) = (xs.drop i).take n := by
  subst ha hb
  unfold cutV
  rw [HT.sIx_nat, HT.sIx_nat, Nat.min_eq_left h, Nat.min_eq_left (show i ≤ xs.length by omega), Nat.add_sub_cancel_left]
theorem cut_seg (l : List Int) {i n : Nat} {a b : Int} (h : i + n ≤ l.length) (ha : a = (i : Nat)) (hb : b = ((i + n : Nat) : Int)) : cutV (l.map V.int) (some a) (some b) = (seg l i n).map V.int := by
  rw [cut_fit _ (by rw [List.length_map]; exact h) ha hb]
  unfold seg
  rw [List.map_take, List.map_drop]
theorem seg_len_le (l : List Int) (i n : Nat) : (seg l i n).length ≤ n := by
  unfold seg
  rw [List.length_take]
  exact Nat.min_le_left _ _
section
variable {P : Program} {w : World} {K : PySem.W.Frag} {mg : Str → Option Value} {base : Heap} {CF CH : Addr}
/-! ### Finder.__init__ -/
theorem scFInit : FnScope ["self", "width", "height", "reach"] ["self", "width", "height", "reach"] (defScope sFInit) := ⟨rfl, rfl, rfl, by decide +kernel, rfl, by decide +kernel, by decide +kernel⟩
theorem ok_finit {f fS : Addr} {fd fdS : FuncData} (F : Fun K "__init__" "Finder.__init__" sFInit f fd) (T : Txt K mg CF CH) (GS : FnOk P w K mg base CX0 4 fS fdS ["reach"] spShifts) (bS : Binds K fdS ["reach"] []) (gS : mg "shifts_by_rank" = some (.ref fS)) (kS : PySem.W.keepIn K (.ref fS) = true) :
    FnOk P w K mg base CX0 5 f fd ["self", "width", "height", "reach"] (spFInit CF) := by
  refine F.ok scFInit (fun vs H Q E h => ?_) (fun cdv A outer s H vs Q E hr h => ?_)
  · obtain ⟨p, dx, w, h, r, rfl, _⟩ := h
    rfl
  · obtain ⟨p, dx, w, h, r, rfl, hp, r8, q⟩ := h
    refine ⟨_, pss_cons (ps_fld (pv 0) (pv 1) rfl) (pss_cons (ps_fld (pv 0) (pv 2) rfl) (pss_cons (ps_fld (pv 0) (pv 3) rfl)
      (pss_one (ps_fld (pv 0) (pe_call GS hr (by rfl) gS kS bS .nil pass0 (pa_cons (pv 3) pa_nil)) rfl)))), ?_⟩
    refine ⟨_, rfl, _, rfl, p, CF, dx, _, rfl, hp, T.cF, T.Fw, (by show 0 < 1000; decide), ?_⟩
    refine ⟨_, rfl, _, rfl, p, CF, dx, _, rfl, upd_same, T.cF, T.Fh, (by show 1 < 1000; decide), ?_⟩
    refine ⟨_, rfl, _, rfl, p, CF, dx, _, rfl, upd_same, T.cF, T.Fr, (by show 2 < 1000; decide), ?_⟩
    rw [upd_upd, upd_upd]
    refine ⟨_, rfl, r, rfl, r8, fun sh xs H1 sm nsh esh all rk => ?_⟩
    have hp1 := sm p _ upd_same
    refine ⟨_, rfl, p, CF, dx, _, rfl, hp1, T.cF, T.Fs, (by show 3 < 1000; decide), ?_⟩
    have ef : putF "shifts" (V.ref sh) (putF "reach" (V.int r) (putF "height" (V.int h) (putF "width" (V.int w) []))) = fF w h r sh := by kernel_rfl
    rw [ef]
    refine q _ ⟨dx, sh, xs, upd_same, ?_, fun u hu => ?_, rk⟩ fun b o e nb => ?_
    · rw [upd_ne (ne_of esh hp1 (by intro z; cases z))]
      exact esh
    · have a1 := all u hu
      refine ⟨?_, a1.2⟩
      rw [upd_ne (ne_of a1.1 hp1 (by intro z; cases z))]
      exact a1.1
    · rw [upd_ne nb]
      refine sm b o ?_
      rw [upd_ne nb]
      exact e
/-! ### Finder.shift_cost -/
theorem scCost : FnScope ["self", "before", "after", "shift", "enough", "aside", "places", "cost", "y", "start", "there"] ["self", "before", "after", "shift", "enough"] (defScope sCost) := ⟨rfl, rfl, rfl, by decide +kernel, rfl, by decide +kernel, by decide +kernel⟩
theorem ok_cost {f fR : Addr} {fd fdR : FuncData} (F : Fun K "shift_cost" "Finder.shift_cost" sCost f fd) (T : Txt K mg CF CH) (GR : FnOk P w K mg base CX0 1 fR fdR ["greys", "others"] spRow) (bR : Binds K fdR ["greys", "others"] []) (gR : mg "row_difference" = some (.ref fR)) (kR : PySem.W.keepIn K (.ref fR) = true) :
    FnOk P w K mg base CX0 2 f fd ["self", "before", "after", "shift", "enough"] (spCost CF) := by
  refine F.ok scCost (fun vs H Q E h => ?_) (fun cdv A outer s H vs Q E hr h => ?_)
  · obtain ⟨f, b, a, dx, sh, p, en, w, h, r, lb, la, rfl, _⟩ := h
    rfl
  · obtain ⟨f, b, a, dx, sh, p, en, w, h, r, lb, la, rfl, hf, hb, ha, hp, p1, p2, sz, ob, oa, q⟩ := h
    obtain ⟨t, d⟩ := p
    obtain ⟨r8, w1, w2, h1, h2⟩ := sz
    dsimp only at p1 p2
    have hW : ∀ {H' : Hp}, Same H H' → H' f = some (.ins CF dx (fF w h r sh)) := fun sm => sm _ _ hf
    refine ⟨_, pss_cons (ps_set (i := 5) scCost.nd rfl (.inl rfl) (pe_op op_add (pe_op op_mul (pe_ix ix_tup (pv 3) pe_int (fun _ _ => rfl)) (pe_fld (pv 0) rfl)) (pe_ix ix_tup (pv 3) pe_int (fun _ _ => rfl))))
      (pss_cons (ps_set (i := 6) scCost.nd rfl (.inl rfl) (pe_op op_sub (pe_fld (pv 0) rfl) (pe_op op_mul pe_int (pe_fld (pv 0) rfl))))
      (pss_cons (ps_set (i := 7) scCost.nd rfl (.inl rfl) pe_int)
      (pss_cons (ps_for PassesOwn.never rfl (pi_range2 (by rfl) T.nRange (pa_cons (pe_fld (pv 0) rfl) (pa_cons (pe_op op_sub (pe_fld (pv 0) rfl) (pe_fld (pv 0) rfl)) pa_nil))) (pg_name (i := 8) scCost.nd rfl (.inl rfl))
        (pss_cons (ps_set (i := 9) scCost.nd rfl (.inl rfl) (pe_op op_add (pe_op op_mul (pv 8) (pe_fld (pv 0) rfl)) (pe_fld (pv 0) rfl)))
        (pss_cons (ps_set (i := 10) scCost.nd rfl (.inl rfl) (pe_op op_add (pv 9) (pv 5)))
        (pss_cons (ps_aug (i := 7) scCost.nd rfl (.inl rfl) (pe_call GR hr (by rfl) gR kR bR .nil pass0 (pa_cons (pe_slice sl_list (pv 1) (po_some (pv 9)) (po_some (pe_op op_add (pv 9) (pv 6)))) (pa_cons (pe_slice sl_list (pv 2) (po_some (pv 10)) (po_some (pe_op op_add (pv 10) (pv 6)))) pa_nil))) ip_add)
        (pss_one (ps_if (pt_cmpR op_ge (pv 7) (pv 4) (nomark _)) (pss_one (ps_ret (pv 7))) pss_nil))))))
      (pss_one (ps_ret (pv 7)))))), ?_⟩
    refine ⟨_, rfl, t, _, 1, .int d.2, rfl, rfl, SqT.of hp.1, atI_nat (j := 1) rfl, _, rfl, f, CF, dx, _, _, rfl, hf, T.cF, T.Fw, fw, _, _, rfl, rfl, .inr ⟨by omega, by omega⟩,
      _, rfl, t, _, 0, .int d.1, rfl, rfl, SqT.of hp.1, atI_nat (j := 0) rfl, _, _, rfl, rfl, ?_⟩
    refine ⟨_, rfl, f, CF, dx, _, _, rfl, hf, T.cF, T.Fw, fw, _, rfl, f, CF, dx, _, _, rfl, hf, T.cF, T.Fr, fr, _, _, rfl, rfl, .inl ⟨by decide, by decide⟩, _, _, rfl, rfl, ?_⟩
    refine ⟨_, rfl, f, CF, dx, _, _, rfl, hf, T.cF, T.Fr, fr, _, rfl, f, CF, dx, _, _, rfl, hf, T.cF, T.Fh, fh, _, rfl, f, CF, dx, _, _, rfl, hf, T.cF, T.Fr, fr, _, _, rfl, rfl, _, _, rfl, ⟨by omega, by omega, by omega, by omega⟩, ?_⟩
    have en' : (((h : Int) - (r : Int)) - (r : Int)).toNat = h - 2 * r := by omega
    rw [en']
    refine for_range (fun i σ H' => ∃ v8 v9 v10, σ = [some (.ref f), some (.ref b), some (.ref a), some (.ref t), some (.int en), some (.int (d.2 * w + d.1)), some (.int ((w : Int) - 2 * r)), some (.int (part w r lb la d i)), v8, v9, v10] ∧ Same H H')
      ⟨none, none, none, rfl, Same.refl H⟩ ?_ ?_
    · rintro i σ H1 hi ⟨v8, v9, v10, rfl, sm⟩
      have hf1 := hW sm
      refine ⟨_, rfl, _, rfl, f, CF, dx, _, _, rfl, hf1, T.cF, T.Fw, fw, _, _, rfl, rfl, .inr ⟨by omega, by omega⟩, _, rfl, f, CF, dx, _, _, rfl, hf1, T.cF, T.Fr, fr, _, _, rfl, rfl, ?_⟩
      refine ⟨_, rfl, _, rfl, _, _, rfl, rfl, ?_⟩
      have e9 : ((r : Int) + (i : Int)) * (w : Int) + (r : Int) = (((r + i) * w + r : Nat) : Int) := by
        rw [Int.natCast_add, Int.natCast_mul, Int.natCast_add]
      have hx : (((r + d.1).toNat : Nat) : Int) = r + d.1 := Int.toNat_of_nonneg (by omega)
      have hy : ((((r + i : Nat) : Int) + d.2).toNat : Int) = ((r + i : Nat) : Int) + d.2 := Int.toNat_of_nonneg (by omega)
      have em := Hs.moved_eq (w := w) (r := r) (d := d) (y := r + i) hx hy
      have fit1 : (r + i) * w + r + (w - 2 * r) ≤ lb.length := by
        rw [ob.len]
        exact Hs.row_fits (by omega) (by omega)
      have fit2 : Hs.moved w r d (r + i) + (w - 2 * r) ≤ la.length := by
        rw [oa.len, em]
        exact Hs.row_fits (by omega) (by omega)
      have e10 : (((r + i) * w + r : Nat) : Int) + (d.2 * w + d.1) = (Hs.moved w r d (r + i) : Nat) := by
        have z : 0 ≤ (((r + i) * w + r : Nat) : Int) + (d.2 * w + d.1) := by
          have e : (((r + i) * w + r : Nat) : Int) + (d.2 * w + d.1) = ((((r + i : Nat) : Int) + d.2).toNat * w + (r + d.1).toNat : Nat) := by
            have eB : (((((r + i : Nat) : Int) + d.2).toNat * w + (r + d.1).toNat : Nat) : Int) = (((r + i : Nat) : Int) + d.2) * w + (r + d.1) := by
              rw [Int.natCast_add, Int.natCast_mul, hy, hx]
            have eA : (((r + i) * w + r : Nat) : Int) = ((r + i : Nat) : Int) * w + r := by
              rw [Int.natCast_add, Int.natCast_mul]
            rw [eA, eB, Int.add_mul]
            omega
          rw [e]
          exact Int.natCast_nonneg _
        exact (Int.toNat_of_nonneg z).symm
      have ep : ((w : Int) - 2 * r) = ((w - 2 * r : Nat) : Int) := by omega
      have e10' : ((r : Int) + (i : Int)) * (w : Int) + (r : Int) + (d.2 * w + d.1) = (Hs.moved w r d (r + i) : Nat) := by
        rw [e9]
        exact e10
      have c1 : cutV (lb.map V.int) (some (((r : Int) + (i : Int)) * (w : Int) + (r : Int))) (some (((r : Int) + (i : Int)) * (w : Int) + (r : Int) + ((w : Int) - 2 * r))) = (seg lb ((r + i) * w + r) (w - 2 * r)).map V.int :=
        cut_seg lb fit1 e9 (by rw [e9, ep]; exact (Int.natCast_add _ _).symm)
      have c2 : cutV (la.map V.int) (some (((r : Int) + (i : Int)) * (w : Int) + (r : Int) + (d.2 * w + d.1))) (some (((r : Int) + (i : Int)) * (w : Int) + (r : Int) + (d.2 * w + d.1) + ((w : Int) - 2 * r))) = (seg la (Hs.moved w r d (r + i)) (w - 2 * r)).map V.int :=
        cut_seg la fit2 e10' (by rw [e10', ep]; exact (Int.natCast_add _ _).symm)
      refine ⟨_, rfl, _, rfl, _, rfl, _, rfl, _, rfl, _, rfl, _, _, rfl, rfl, _, rfl, b, _, rfl, SqL.of (sm _ _ hb), fun s1 n1 => ?_⟩
      refine ⟨_, rfl, _, rfl, _, rfl, _, rfl, _, rfl, _, _, rfl, rfl, _, rfl, a, _, rfl, SqL.of (same_upd n1 _ _ (sm _ _ ha)), fun s2 n2 => ?_⟩
      have ns : s1 ≠ s2 := ne_of_none upd_same n2
      refine ⟨s1, s2, seg lb ((r + i) * w + r) (w - 2 * r), seg la (Hs.moved w r d (r + i)) (w - 2 * r), rfl, (upd_ne ns).trans (upd_same.trans (congrArg (fun q => some (HO.lst q)) c1)), upd_same.trans (congrArg (fun q => some (HO.lst q)) c2), Nat.le_trans (seg_len_le _ _ _) (by omega), fun H2 sm2 => ?_⟩
      refine ⟨_, _, rfl, rfl, ?_⟩
      have ec : part w r lb la d i + rowd (seg lb ((r + i) * w + r) (w - 2 * r)) (seg la (Hs.moved w r d (r + i)) (w - 2 * r)) = part w r lb la d (i + 1) := (Hs.part_succ ..).symm
      have smA : Same H H2 := sm.trans ((same_upd n1).trans ((same_upd n2).trans sm2))
      refine ⟨_, rfl, _, rfl, _, _, rfl, rfl, _, rfl, ite2 (fun e => ?_) (fun e => ?_)⟩
      · have e' : en ≤ part w r lb la d i + rowd (seg lb ((r + i) * w + r) (w - 2 * r)) (seg la (Hs.moved w r d (r + i)) (w - 2 * r)) := of_decide_eq_true e
        have le : part w r lb la d (i + 1) ≤ full w h r lb la d := Hs.part_le (by omega)
        exact ⟨_, rfl, q _ H2 smA (.inr ⟨e', Int.le_trans (by rw [← ec]; exact e') le⟩)⟩
      · exact ⟨_, _, _, by rw [← ec]; rfl, smA⟩
    · rintro σ H1 ⟨v8, v9, v10, rfl, sm⟩
      exact ⟨_, rfl, q _ H1 sm (.inl rfl)⟩
/-! ### Finder.found_shift -/
theorem scFound : FnScope ["self", "before", "after", "least", "found", "shift", "cost"] ["self", "before", "after"] (defScope sFound) := ⟨rfl, rfl, rfl, by decide +kernel, rfl, by decide +kernel, by decide +kernel⟩
theorem ok_found {f fC : Addr} {fd fdC : FuncData} (F : Fun K "found_shift" "Finder.found_shift" sFound f fd) (T : Txt K mg CF CH) (GC : FnOk P w K mg base CX0 2 fC fdC ["self", "before", "after", "shift", "enough"] (spCost CF)) (bC : Binds K fdC ["self", "before", "after", "shift", "enough"] []) (mC : Meth K CF "shift_cost" fC) :
    FnOk P w K mg base CX0 3 f fd ["self", "before", "after"] (spFound CF) := by
  obtain ⟨t3, g3⟩ := T.g3
  refine F.ok scFound (fun vs H Q E h => ?_) (fun cdv A outer s H vs Q E hr h => ?_)
  · obtain ⟨f, b, a, w, h, r, lb, la, rfl, _⟩ := h
    rfl
  · obtain ⟨f, b, a, w, h, r, lb, la, rfl, ⟨dx, sh, xs, hf, hsh, all, rk⟩, hb, ha, sz, ob, oa, q⟩ := h
    refine ⟨_, pss_cons (ps_set (i := 3) scFound.nd rfl (.inl rfl) (pe_op op_add (pe_op op_mul (pe_glob rfl g3 (relI 255 t3)) (pe_callB call_len_seq (by rfl) T.nLen PySem.boot_len (pa_cons (pv 1) pa_nil))) pe_int))
      (pss_cons (ps_set (i := 4) scFound.nd rfl (.inl rfl) (pe_tup (pa_cons pe_int (pa_cons pe_int pa_nil))))
      (pss_cons (ps_for PassesOwn.never rfl (pi_list (pe_fld (pv 0) rfl)) (pg_name (i := 5) scFound.nd rfl (.inl rfl))
        (pss_cons (ps_set (i := 6) scFound.nd rfl (.inl rfl) (pe_meth (pv 0) T.cF mC GC hr bC .nil pass0 (pa_cons (pv 1) (pa_cons (pv 2) (pa_cons (pv 5) (pa_cons (pv 3) pa_nil))))))
        (pss_cons (ps_if (pt_cmpR op_lt (pv 6) (pv 3) (nomark _)) (pss_cons (ps_set (i := 3) scFound.nd rfl (.inl rfl) (pv 6)) (pss_one (ps_set (i := 4) scFound.nd rfl (.inl rfl) (pv 5)))) pss_nil)
        (pss_one (ps_if (pt_cmpR op_eq (pv 3) pe_int (nomark _)) (pss_one ps_break) pss_nil)))))
      (pss_one (ps_ret (pv 4))))), ?_⟩
    refine ⟨_, rfl, b, _, rfl, .inl (SqL.of hb), _, _, rfl, rfl, .inl ⟨by decide, by decide⟩, _, _, rfl, rfl, ?_⟩
    refine ⟨(by show 2 ≤ sizeLine; decide), fun t0 n0 => ?_⟩
    have sm0 := same_upd (o := .tup [V.int 0, V.int 0]) n0
    refine ⟨_, rfl, f, CF, dx, _, _, rfl, sm0 _ _ hf, T.cF, T.Fs, fsh, sh, rfl, ⟨_, SqL.of (sm0 _ _ hsh)⟩, ?_⟩
    rw [List.length_map]
    have fold : (((xs.map (·.2)).foldl (Hs.pick (full w h r lb la)) (255 * (lb.length : Int) + 1, (0, 0))).2) = (Kh288.find (toPic w h lb) (toPic w h la) r).2 := Hs.found_is ob oa sz.w1 sz.h1 rk
    -- the end, wherever the loop is left
    have fin : ∀ (s : Int × Sh) (tf : Addr) (v5 v6 : Option V) (H1 : Hp), Same H H1 → H1 tf = some (.tup [.int s.2.1, .int s.2.2]) → s = (xs.map (·.2)).foldl (Hs.pick (full w h r lb la)) (255 * (lb.length : Int) + 1, (0, 0)) → Q (.ref tf) H1 := by
      intro s tf v5 v6 H1 sm ht es
      rw [es, fold] at ht
      exact q tf H1 sm ht
    refine for_list (K := K) (a := sh) (xs := xs.map fun p => V.ref p.1) (fun i σ H1 => ∃ (s : Int × Sh) (tf : Addr) (v5 v6 : Option V), σ = [some (.ref f), some (.ref b), some (.ref a), some (.int s.1), some (.ref tf), v5, v6] ∧ Same H H1 ∧ H1 tf = some (.tup [.int s.2.1, .int s.2.2]) ∧
        s = ((xs.map (·.2)).take i).foldl (Hs.pick (full w h r lb la)) (255 * (lb.length : Int) + 1, (0, 0))) ⟨(255 * (lb.length : Int) + 1, (0, 0)), t0, none, none, rfl, sm0, upd_same, rfl⟩ (fun i σ H1 _ ⟨_, _, _, _, _, sm, _⟩ => SqL.of (sm _ _ hsh)) ?_ ?_
    · rintro i x σ H1 hi ⟨s, tf, v5, v6, rfl, sm, ht, es⟩
      cases hp : xs[i]? with
      | none =>
        rw [List.getElem?_map, hp] at hi
        cases hi
      | some p =>
        rw [List.getElem?_map, hp] at hi
        have ex : V.ref p.1 = x := Option.some.inj hi
        subst ex
        have pm := List.mem_of_getElem? hp
        have a1 := all p pm
        have bnd := Hs.mem_shifts.mp (rk.perm.mem_iff.mp (List.mem_map.mpr ⟨p, pm, rfl⟩))
        refine ⟨.ref f, rfl, f, dx, _, rfl, sm _ _ hf, (by kernel_rfl), _, rfl, _, rfl, _, rfl, _, rfl, ?_⟩
        refine ⟨f, b, a, dx, sh, p, s.1, w, h, r, lb, la, rfl, sm _ _ hf, sm _ _ hb, sm _ _ ha, ⟨sm _ _ a1.1, a1.2⟩, bnd.1, bnd.2, sz, ob, oa, fun c H2 sm2 hc => ?_⟩
        have sm' := sm.trans sm2
        have et : (xs.map (·.2)).take (i + 1) = (xs.map (·.2)).take i ++ [p.2] := by
          rw [List.take_add_one, List.getElem?_map, hp]
          rfl
        -- the second test, whatever the first did
        have snd : ∀ (s' : Int × Sh) (tf' : Addr), H2 tf' = some (.tup [.int s'.2.1, .int s'.2.2]) → s' = ((xs.map (·.2)).take (i + 1)).foldl (Hs.pick (full w h r lb la)) (255 * (lb.length : Int) + 1, (0, 0)) →
            (s'.1 = 0 → Q (.ref tf') H2) := by
          intro s' tf' ht' es' z
          refine fin s' tf' none none H2 sm' ht' ?_
          have esplit : xs.map (·.2) = (xs.map (·.2)).take (i + 1) ++ (xs.map (·.2)).drop (i + 1) := (List.take_append_drop _ _).symm
          rw [esplit, List.foldl_append, ← es', Hs.pick_zero (fun d => Hs.full_nonneg ..) z]
        have fl : (c < s.1) ↔ full w h r lb la p.2 < s.1 := by omega
        refine ⟨_, rfl, _, rfl, _, _, rfl, rfl, _, rfl, ite2 (fun e => ?_) (fun e => ?_)⟩
        · have e' : c < s.1 := of_decide_eq_true e
          have ec : c = full w h r lb la p.2 := by omega
          have es' : ((c, p.2) : Int × Sh) = ((xs.map (·.2)).take (i + 1)).foldl (Hs.pick (full w h r lb la)) (255 * (lb.length : Int) + 1, (0, 0)) := by
            rw [et, List.foldl_append, ← es]
            show _ = Hs.pick (full w h r lb la) s p.2
            unfold Hs.pick
            rw [if_pos (fl.mp e'), ec]
          refine ⟨_, rfl, _, rfl, _, rfl, rfl, _, rfl, ite2 (fun e => ?_) (fun e => ?_)⟩
          · have z : c = 0 := V.int.inj (of_decide_eq_true e)
            exact ⟨_, rfl, snd (c, p.2) p.1 (sm' _ _ a1.1) es' z⟩
          · exact ⟨(c, p.2), p.1, _, _, rfl, sm', sm' _ _ a1.1, es'⟩
        · have e' : ¬ c < s.1 := fun z => e (decide_eq_true z)
          have es' : s = ((xs.map (·.2)).take (i + 1)).foldl (Hs.pick (full w h r lb la)) (255 * (lb.length : Int) + 1, (0, 0)) := by
            rw [et, List.foldl_append, ← es]
            show _ = Hs.pick (full w h r lb la) s p.2
            unfold Hs.pick
            rw [if_neg fun z => e' (fl.mpr z)]
          refine ⟨_, rfl, rfl, _, rfl, ite2 (fun e => ?_) (fun e => ?_)⟩
          · have z : s.1 = 0 := V.int.inj (of_decide_eq_true e)
            exact ⟨_, rfl, snd s tf (sm2 _ _ ht) es' z⟩
          · exact ⟨s, tf, _, _, rfl, sm', sm2 _ _ ht, es'⟩
    · rintro σ H1 ⟨s, tf, v5, v6, rfl, sm, ht, es⟩
      rw [List.length_map, List.take_of_length_le (by rw [List.length_map]; exact Nat.le_refl _)] at es
      exact ⟨_, rfl, fin s tf v5 v6 H1 sm ht es⟩
end
end HsP

/-! ## HsD4 -/
set_option maxRecDepth 100000
set_option maxHeartbeats 4000000
namespace HsP
open PySem PySem.Spec PyProof.Rows L2
open HsSort (ShAt spRank)
open Hs (Sh far RLe PicOk toPic rowd full part seg Ranked oneN keepW goes shownL shownRow Good S Cl)
section
variable {P : Program} {w : World} {K : PySem.W.Frag} {mg : Str → Option Value} {base : Heap} {CF CH : Addr}
theorem scRefusal : FnScope [] [] (defScope sRefusal) := ⟨rfl, rfl, rfl, by decide +kernel, rfl, by decide +kernel, by decide +kernel⟩
theorem ok_refusal {f : Addr} {fd : FuncData} (F : Fun K "refusal" "refusal" sRefusal f fd) : FnOk P w K mg base CX0 1 f fd [] spRefusal := by
  refine F.ok scRefusal (fun vs H Q E h => ?_) (fun cdv A outer s H vs Q E hr h => ?_)
  · obtain ⟨rfl, _⟩ := h
    rfl
  · obtain ⟨rfl, q⟩ := h
    refine ⟨_, pss_one (ps_ret (pe_lst (pa_cons (pe_un un_neg pe_int) pa_nil))), ?_⟩
    exact ⟨_, rfl, (by show 1 ≤ sizeLine; decide), fun p np => q p np⟩
theorem scOne : FnScope ["number", "aim"] ["number", "aim"] (defScope sOne) := ⟨rfl, rfl, rfl, by decide +kernel, rfl, by decide +kernel, by decide +kernel⟩
theorem ok_one {f : Addr} {fd : FuncData} (F : Fun K "one_nearer" "one_nearer" sOne f fd) : FnOk P w K mg base CX0 1 f fd ["number", "aim"] spOne := by
  refine F.ok scOne (fun vs H Q E h => ?_) (fun cdv A outer s H vs Q E hr h => ?_)
  · obtain ⟨v, m, rfl, _⟩ := h
    rfl
  · obtain ⟨v, m, rfl, q⟩ := h
    refine ⟨_, pss_cons (ps_if (pt_cmpR op_lt (pv 0) (pv 1) (nomark _)) (pss_one (ps_ret (pe_op op_add (pv 0) pe_int))) pss_nil)
      (pss_cons (ps_if (pt_cmpR op_gt (pv 0) (pv 1) (nomark _)) (pss_one (ps_ret (pe_op op_sub (pv 0) pe_int))) pss_nil)
      (pss_one (ps_ret (pv 0)))), ?_⟩
    unfold oneN at q
    refine ⟨_, rfl, _, rfl, _, _, rfl, rfl, _, rfl, ite2 (fun e => ?_) (fun e => ?_)⟩
    · have e' : v < m := of_decide_eq_true e
      rw [if_pos e'] at q
      exact ⟨_, rfl, _, _, rfl, rfl, q⟩
    · have e' : ¬ v < m := fun z => e (decide_eq_true z)
      rw [if_neg e'] at q
      refine ⟨_, rfl, _, rfl, _, _, rfl, rfl, _, rfl, ite2 (fun e2 => ?_) (fun e2 => ?_)⟩
      · have e3 : m < v := of_decide_eq_true e2
        rw [if_pos e3] at q
        exact ⟨_, rfl, _, _, rfl, rfl, q⟩
      · have e3 : ¬ m < v := fun z => e2 (decide_eq_true z)
        rw [if_neg e3] at q
        exact ⟨_, rfl, q⟩
theorem scKeep : FnScope ["number", "most"] ["number", "most"] (defScope sKeep) := ⟨rfl, rfl, rfl, by decide +kernel, rfl, by decide +kernel, by decide +kernel⟩
theorem ok_keep {f : Addr} {fd : FuncData} (F : Fun K "kept_within" "kept_within" sKeep f fd) (T : Txt K mg CF CH) : FnOk P w K mg base CX0 1 f fd ["number", "most"] spKeep := by
  refine F.ok scKeep (fun vs H Q E h => ?_) (fun cdv A outer s H vs Q E hr h => ?_)
  · obtain ⟨v, m, rfl, _⟩ := h
    rfl
  · obtain ⟨v, m, rfl, q⟩ := h
    refine ⟨_, pss_one (ps_ret (pe_callB (call_max2 rfl) (by rfl) T.nMax (by decide +kernel) (pa_cons pe_int (pa_cons (pe_callB (call_min2 rfl) (by rfl) T.nMin (by decide +kernel) (pa_cons (pv 0) (pa_cons (pv 1) pa_nil))) pa_nil)))), ?_⟩
    exact ⟨_, rfl, _, rfl, _, _, rfl, _, _, rfl, q⟩
/-! ### Hold -/
theorem scForget : FnScope ["self"] ["self"] (defScope sForget) := ⟨rfl, rfl, rfl, by decide +kernel, rfl, by decide +kernel, by decide +kernel⟩
theorem forget_new {w h m sl fin : V} : putF "top" m (putF "left" m (putF "moved_y" (.int 0) (putF "moved_x" (.int 0) (putF "pictures" (.int 0) (putF "before" .non (h5 w h m sl fin ++ [])))))) = hF w h m sl fin .non (.int 0) (.int 0) (.int 0) m m := by kernel_rfl
theorem forget_old {w h m sl fin b p x y l t : V} : putF "top" m (putF "left" m (putF "moved_y" (.int 0) (putF "moved_x" (.int 0) (putF "pictures" (.int 0) (putF "before" .non (h5 w h m sl fin ++ h6 b p x y l t)))))) = hF w h m sl fin .non (.int 0) (.int 0) (.int 0) m m := by kernel_rfl
theorem forget_lm {w h m sl fin : V} : (putF "moved_y" (.int 0) (putF "moved_x" (.int 0) (putF "pictures" (.int 0) (putF "before" .non (h5 w h m sl fin ++ []))))).lookup ("margin" : Str) = some m := by kernel_rfl
theorem forget_lm2 {w h m sl fin : V} : (putF "left" m (putF "moved_y" (.int 0) (putF "moved_x" (.int 0) (putF "pictures" (.int 0) (putF "before" .non (h5 w h m sl fin ++ [])))))).lookup ("margin" : Str) = some m := by kernel_rfl
theorem forget_om {w h m sl fin b p x y l t : V} : (putF "moved_y" (.int 0) (putF "moved_x" (.int 0) (putF "pictures" (.int 0) (putF "before" .non (h5 w h m sl fin ++ h6 b p x y l t))))).lookup ("margin" : Str) = some m := by kernel_rfl
theorem forget_om2 {w h m sl fin b p x y l t : V} : (putF "left" m (putF "moved_y" (.int 0) (putF "moved_x" (.int 0) (putF "pictures" (.int 0) (putF "before" .non (h5 w h m sl fin ++ h6 b p x y l t)))))).lookup ("margin" : Str) = some m := by kernel_rfl
theorem ok_forget {f : Addr} {fd : FuncData} (F : Fun K "forget_pictures" "Hold.forget_pictures" sForget f fd) (T : Txt K mg CF CH) : FnOk P w K mg base CX0 1 f fd ["self"] (spForget CH) := by
  refine F.ok scForget (fun vs H Q E h => ?_) (fun cdv A outer s H vs Q E hr h => ?_)
  · obtain ⟨a, dx, w, h, m, sl, fin, rest, rfl, _⟩ := h
    rfl
  · obtain ⟨a, dx, w, h, m, sl, fin, rest, rfl, ha, hrest, q⟩ := h
    refine ⟨_, pss_cons (ps_fld (pv 0) pe_non rfl) (pss_cons (ps_fld (pv 0) pe_int rfl) (pss_cons (ps_fld (pv 0) pe_int rfl) (pss_cons (ps_fld (pv 0) pe_int rfl)
      (pss_cons (ps_fld (pv 0) (pe_fld (pv 0) rfl) rfl) (pss_one (ps_fld (pv 0) (pe_fld (pv 0) rfl) rfl)))))), ?_⟩
    rcases hrest with rfl | ⟨b, p, x, y, l, t, rfl⟩
    · refine ⟨_, rfl, a, CH, dx, _, rfl, ha, T.cH, T.Hbef, (by show 5 < 1000; decide), ?_⟩
      refine ⟨_, rfl, a, CH, dx, _, rfl, upd_same, T.cH, T.Hpics, (by show 6 < 1000; decide), ?_⟩
      refine ⟨_, rfl, a, CH, dx, _, rfl, upd_same, T.cH, T.Hmx, (by show 7 < 1000; decide), ?_⟩
      refine ⟨_, rfl, a, CH, dx, _, rfl, upd_same, T.cH, T.Hmy, (by show 8 < 1000; decide), ?_⟩
      refine ⟨_, rfl, a, CH, dx, _, _, rfl, upd_same, T.cH, T.Hm, forget_lm, _, rfl, a, CH, dx, _, rfl, upd_same, T.cH, T.Hleft, (by show 9 < 1000; decide), ?_⟩
      refine ⟨_, rfl, a, CH, dx, _, _, rfl, upd_same, T.cH, T.Hm, forget_lm2, _, rfl, a, CH, dx, _, rfl, upd_same, T.cH, T.Htop, (by show 10 < 1000; decide), ?_⟩
      refine q _ ?_
      rw [upd_upd, upd_upd, upd_upd, upd_upd, upd_upd, forget_new]
    · refine ⟨_, rfl, a, CH, dx, _, rfl, ha, T.cH, T.Hbef, (by show 11 < 1000; decide), ?_⟩
      refine ⟨_, rfl, a, CH, dx, _, rfl, upd_same, T.cH, T.Hpics, (by show 11 < 1000; decide), ?_⟩
      refine ⟨_, rfl, a, CH, dx, _, rfl, upd_same, T.cH, T.Hmx, (by show 11 < 1000; decide), ?_⟩
      refine ⟨_, rfl, a, CH, dx, _, rfl, upd_same, T.cH, T.Hmy, (by show 11 < 1000; decide), ?_⟩
      refine ⟨_, rfl, a, CH, dx, _, _, rfl, upd_same, T.cH, T.Hm, forget_om, _, rfl, a, CH, dx, _, rfl, upd_same, T.cH, T.Hleft, (by show 11 < 1000; decide), ?_⟩
      refine ⟨_, rfl, a, CH, dx, _, _, rfl, upd_same, T.cH, T.Hm, forget_om2, _, rfl, a, CH, dx, _, rfl, upd_same, T.cH, T.Htop, (by show 11 < 1000; decide), ?_⟩
      refine q _ ?_
      rw [upd_upd, upd_upd, upd_upd, upd_upd, upd_upd, forget_old]
theorem scHInit : FnScope ["self"] ["self"] (defScope sHInit) := ⟨rfl, rfl, rfl, by decide +kernel, rfl, by decide +kernel, by decide +kernel⟩
theorem init5 : putF "finder" .non (putF "slow" (.int 0) (putF "margin" .non (putF "height" .non (putF "width" .non [])))) = h5 .non .non .non (.int 0) .non ++ [] := by kernel_rfl
theorem h5_nometh {w h m sl fin : V} : (h5 w h m sl fin ++ []).lookup ("forget_pictures" : Str) = none := by kernel_rfl
theorem ok_hinit {f fG : Addr} {fd fdG : FuncData} (F : Fun K "__init__" "Hold.__init__" sHInit f fd) (T : Txt K mg CF CH) (GG : FnOk P w K mg base CX0 1 fG fdG ["self"] (spForget CH)) (bG : Binds K fdG ["self"] []) (mG : Meth K CH "forget_pictures" fG) :
    FnOk P w K mg base CX0 2 f fd ["self"] (spHInit CH) := by
  refine F.ok scHInit (fun vs H Q E h => ?_) (fun cdv A outer s H vs Q E hr h => ?_)
  · obtain ⟨p, dx, rfl, _⟩ := h
    rfl
  · obtain ⟨p, dx, rfl, hp, q⟩ := h
    refine ⟨_, pss_cons (ps_fld (pv 0) pe_non rfl) (pss_cons (ps_fld (pv 0) pe_non rfl) (pss_cons (ps_fld (pv 0) pe_non rfl) (pss_cons (ps_fld (pv 0) pe_int rfl) (pss_cons (ps_fld (pv 0) pe_non rfl)
      (pss_one (ps_expr (pe_meth0 (pv 0) T.cH mG GG hr bG .nil pass0))))))), ?_⟩
    refine ⟨_, rfl, p, CH, dx, _, rfl, hp, T.cH, T.Hw, (by show 0 < 1000; decide), ?_⟩
    refine ⟨_, rfl, p, CH, dx, _, rfl, upd_same, T.cH, T.Hh, (by show 1 < 1000; decide), ?_⟩
    refine ⟨_, rfl, p, CH, dx, _, rfl, upd_same, T.cH, T.Hm, (by show 2 < 1000; decide), ?_⟩
    refine ⟨_, rfl, p, CH, dx, _, rfl, upd_same, T.cH, T.Hsl, (by show 3 < 1000; decide), ?_⟩
    refine ⟨_, rfl, p, CH, dx, _, rfl, upd_same, T.cH, T.Hfin, (by show 4 < 1000; decide), ?_⟩
    rw [upd_upd, upd_upd, upd_upd, upd_upd, init5]
    refine ⟨.ref p, rfl, p, dx, _, rfl, upd_same, h5_nometh, ?_⟩
    refine ⟨p, dx, _, _, _, _, _, [], rfl, upd_same, .inl rfl, fun H' e => ?_⟩
    rw [upd_upd] at e
    subst e
    exact q _ upd_same fun b o e nb => by
      rw [upd_ne nb]
      exact e
theorem scWhere : FnScope ["self"] ["self"] (defScope sWhere) := ⟨rfl, rfl, rfl, by decide +kernel, rfl, by decide +kernel, by decide +kernel⟩
theorem ok_where {f : Addr} {fd : FuncData} (F : Fun K "where" "Hold.where" sWhere f fd) (T : Txt K mg CF CH) : FnOk P w K mg base CX0 1 f fd ["self"] (spWhere CF CH) := by
  refine F.ok scWhere (fun vs H Q E h => ?_) (fun cdv A outer s H vs Q E hr h => ?_)
  · obtain ⟨g, a, z, rfl, _⟩ := h
    rfl
  · obtain ⟨g, a, z, rfl, ⟨dx, fin, bef, ha, hf, hb, hn⟩, q⟩ := h
    refine ⟨_, pss_one (ps_ret (pe_lst (pa_cons pe_int (pa_cons (pe_fld (pv 0) rfl) (pa_cons (pe_fld (pv 0) rfl) (pa_cons (pe_fld (pv 0) rfl) pa_nil)))))), ?_⟩
    refine ⟨_, rfl, a, CH, dx, _, _, rfl, ha, T.cH, T.Hmx, lmx, _, rfl, a, CH, dx, _, _, rfl, ha, T.cH, T.Hmy, lmy, _, rfl, a, CH, dx, _, _, rfl, ha, T.cH, T.Hpics, lpics, (by show 4 ≤ sizeLine; decide), fun p np => ?_⟩
    rw [Hs.step_where] at q
    have sm := same_upd (o := .lst [V.int 0, V.int z.dx, V.int z.dy, V.int z.many]) np
    exact q _ p (HoldAt.same sm (s := some z) ⟨dx, fin, bef, ha, hf, hb, hn⟩) (fun b o e _ => sm b o e) np upd_same
theorem scGives : FnScope ["self"] ["self"] (defScope sGives) := ⟨rfl, rfl, rfl, by decide +kernel, rfl, by decide +kernel, by decide +kernel⟩
theorem ok_gives {f : Addr} {fd : FuncData} (F : Fun K "gives_way" "Hold.gives_way" sGives f fd) (T : Txt K mg CF CH) : FnOk P w K mg base CX0 1 f fd ["self"] (spGives CH) := by
  refine F.ok scGives (fun vs H Q E h => ?_) (fun cdv A outer s H vs Q E hr h => ?_)
  · obtain ⟨a, dx, w, h, m, fin, bef, mx, my, left, top, z, rfl, _⟩ := h
    rfl
  · obtain ⟨a, dx, w, h, m, fin, bef, mx, my, left, top, z, rfl, ha, q⟩ := h
    refine ⟨_, pss_one (ps_ret (pe_and (pe_cmpR op_ne (pe_fld (pv 0) rfl) pe_int (nomark _)) (pe_one (pe_cmpR op_eq (pe_op op_modN (pe_fld (pv 0) rfl) (pe_fld (pv 0) rfl)) pe_int (nomark _))))), ?_⟩
    refine ⟨_, rfl, a, CH, dx, _, _, rfl, ha, T.cH, T.Hsl, lsl, rfl, _, rfl, ?_⟩
    unfold goes at q
    by_cases e : z.set.slow = 0
    · have e1 : decide (V.int (z.set.slow : Int) = V.int 0) = true := decide_eq_true (by rw [e]; rfl)
      have e2 : (z.set.slow != 0) = false := by
        rw [e]
        rfl
      rw [e2] at q
      rw [e1]
      exact q
    · have e1 : decide (V.int (z.set.slow : Int) = V.int 0) = false := decide_eq_false fun x => e (by have := V.int.inj x; omega)
      have e2 : (z.set.slow != 0) = true := by
        rw [bne_iff_ne]
        exact e
      rw [e2, Bool.true_and] at q
      rw [e1]
      refine ⟨_, rfl, a, CH, dx, _, _, rfl, ha, T.cH, T.Hpics, lpics, _, rfl, a, CH, dx, _, _, rfl, ha, T.cH, T.Hsl, lsl, _, _, rfl, rfl, (by omega), rfl, ?_⟩
      have e3 : decide (V.int ((z.many : Int).fmod (z.set.slow : Int)) = V.int 0) = (z.many % z.set.slow == 0) := by
        rw [Int.fmod_eq_emod_of_nonneg _ (Int.natCast_nonneg _)]
        have e4 : ((z.many : Int) % (z.set.slow : Int)) = ((z.many % z.set.slow : Nat) : Int) := rfl
        rw [e4]
        by_cases e5 : z.many % z.set.slow = 0
        · rw [e5]
          rfl
        · rw [decide_eq_false fun x => e5 (by have := V.int.inj x; omega)]
          exact (beq_eq_false_iff_ne.mpr e5).symm
      rw [e3]
      exact q
end
end HsP

/-! ## HsD5 -/
set_option maxRecDepth 100000
set_option maxHeartbeats 4000000
namespace HsP
open PySem PySem.Spec PyProof.Rows L2
open HsSort (ShAt spRank)
open Hs (Sh far RLe PicOk toPic rowd full part seg Ranked oneN keepW goes shownL shownRow Good S Cl)
theorem shownL_len (w m : Nat) (x y : Int) (b : List Int) : ∀ n, (shownL w m x y b n).length ≤ n * (w - 2 * m)
  | 0 => Nat.zero_le _
  | n + 1 => by
    rw [Hs.shownL_succ, List.length_append, Nat.succ_mul]
    exact Nat.add_le_add (shownL_len w m x y b n) (seg_len_le _ _ _)
theorem eqv2 (a b c d : Int) : PyData.eqv (.tuple [.int a, .int b]) (.tuple [.int c, .int d]) = ((a == c) && (b == d)) := by
  simp [PyData.eqv, PyData.eqvAll]
theorem shaped2 (a b : Int) : SeqAt.shaped (.tuple [.int a, .int b]) = true := by rfl
theorem dp2 {K : PySem.W.Frag} {H : Hp} {t : Addr} {a b : Int} (h : H t = some (.tup [.int a, .int b])) : Dp K H (.ref t) (.tuple [.int a, .int b]) :=
  .tup (SqT.of h) (.cons (.int a) (.cons (.int b) .nil))
theorem ne2 (a b c d : Int) : (!PyData.eqv (.tuple [.int a, .int b]) (.tuple [.int c, .int d])) = true ↔ (a ≠ c ∨ b ≠ d) := by
  rw [eqv2]
  by_cases h1 : a = c <;> by_cases h2 : b = d <;> simp [h1, h2]
section
variable {P : Program} {w : World} {K : PySem.W.Frag} {mg : Str → Option Value} {base : Heap} {CF CH : Addr}
theorem scShown : FnScope ["self", "picture", "columns", "rows", "greys", "y", "start"] ["self", "picture"] (defScope sShown) := ⟨rfl, rfl, rfl, by decide +kernel, rfl, by decide +kernel, by decide +kernel⟩
theorem ok_shown {f : Addr} {fd : FuncData} (F : Fun K "shown" "Hold.shown" sShown f fd) (T : Txt K mg CF CH) : FnOk P w K mg base CX0 1 f fd ["self", "picture"] (spShown CH) := by
  refine F.ok scShown (fun vs H Q E h => ?_) (fun cdv A outer s H vs Q E hr h => ?_)
  · obtain ⟨a, b, dx, w, h, m, sl, fin, bef, pics, mx, my, x, y, l, rfl, _⟩ := h
    rfl
  · obtain ⟨a, b, dx, w, h, m, sl, fin, bef, pics, mx, my, x, y, l, rfl, ha, hb, ok, w2, h2, mw, mh, x0, x1, y0, y1, q⟩ := h
    refine ⟨_, pss_cons (ps_set (i := 2) scShown.nd rfl (.inl rfl) (pe_op op_sub (pe_fld (pv 0) rfl) (pe_op op_mul pe_int (pe_fld (pv 0) rfl))))
      (pss_cons (ps_set (i := 3) scShown.nd rfl (.inl rfl) (pe_op op_sub (pe_fld (pv 0) rfl) (pe_op op_mul pe_int (pe_fld (pv 0) rfl))))
      (pss_cons (ps_set (i := 4) scShown.nd rfl (.inl rfl) (pe_lst pa_nil))
      (pss_cons (ps_for PassesOwn.never rfl (pi_range2 (by rfl) T.nRange (pa_cons (pe_fld (pv 0) rfl) (pa_cons (pe_op op_add (pe_fld (pv 0) rfl) (pv 3)) pa_nil))) (pg_name (i := 5) scShown.nd rfl (.inl rfl))
        (pss_cons (ps_set (i := 6) scShown.nd rfl (.inl rfl) (pe_op op_add (pe_op op_mul (pv 5) (pe_fld (pv 0) rfl)) (pe_fld (pv 0) rfl)))
        (pss_one (ps_expr (pe_bm PySem.F.plainAttrs_list PySem.F.slot_list_extend PySem.F.type_list_extend mt_extend (pv 4) (pa_cons (pe_slice sl_list (pv 1) (po_some (pv 6)) (po_some (pe_op op_add (pv 6) (pv 2)))) pa_nil))))))
      (pss_one (ps_ret (pv 4)))))), ?_⟩
    refine ⟨_, rfl, a, CH, dx, _, _, rfl, ha, T.cH, T.Hw, lw, _, rfl, a, CH, dx, _, _, rfl, ha, T.cH, T.Hm, lm, _, _, rfl, rfl, .inl ⟨by decide, by decide⟩, _, _, rfl, rfl, ?_⟩
    refine ⟨_, rfl, a, CH, dx, _, _, rfl, ha, T.cH, T.Hh, lh, _, rfl, a, CH, dx, _, _, rfl, ha, T.cH, T.Hm, lm, _, _, rfl, rfl, .inl ⟨by decide, by decide⟩, _, _, rfl, rfl, ?_⟩
    refine ⟨Nat.zero_le _, fun o no => ?_⟩
    have sm0 := same_upd (o := .lst []) no
    have ha0 := sm0 _ _ ha
    refine ⟨_, rfl, a, CH, dx, _, _, rfl, ha0, T.cH, T.Htop, ltop, _, rfl, a, CH, dx, _, _, rfl, ha0, T.cH, T.Htop, ltop, _, rfl, _, _, rfl, rfl, _, _, rfl, ⟨by omega, by omega, by omega, by omega⟩, ?_⟩
    have en : ((y + ((h : Int) - 2 * m)) - y).toNat = h - 2 * m := by omega
    rw [en]
    refine for_range (fun i σ H' => ∃ v5 v6, σ = [some (.ref a), some (.ref b), some (.int ((w : Int) - 2 * m)), some (.int ((h : Int) - 2 * m)), some (.ref o), v5, v6] ∧ Same H H' ∧ H' o = some (.lst ((shownL w m x y l i).map V.int))) ⟨none, none, rfl, sm0, upd_same⟩ ?_ ?_
    · rintro i σ H1 hi ⟨v5, v6, rfl, sm, eo⟩
      have ha1 := sm _ _ ha
      refine ⟨_, rfl, _, rfl, a, CH, dx, _, _, rfl, ha1, T.cH, T.Hw, lw, _, _, rfl, rfl, .inr ⟨by omega, by omega⟩, _, rfl, a, CH, dx, _, _, rfl, ha1, T.cH, T.Hleft, lleft, _, _, rfl, rfl, ?_⟩
      have fit : y.toNat * w + i * w + x.toNat + (w - 2 * m) ≤ l.length := by
        rw [ok.len, ← Nat.add_mul]
        exact Hs.row_fits (by omega) (by omega)
      have e1 : (y + (i : Int)) * (w : Int) + x = ((y.toNat * w + i * w + x.toNat : Nat) : Int) := by
        have ey : ((y.toNat : Nat) : Int) = y := Int.toNat_of_nonneg y0
        have ex : ((x.toNat : Nat) : Int) = x := Int.toNat_of_nonneg x0
        rw [Int.natCast_add, Int.natCast_add, Int.natCast_mul, Int.natCast_mul, ey, ex, Int.add_mul]
      have ew : (w : Int) - 2 * m = ((w - 2 * m : Nat) : Int) := by omega
      have c1 : cutV (l.map V.int) (some ((y + (i : Int)) * (w : Int) + x)) (some ((y + (i : Int)) * (w : Int) + x + ((w : Int) - 2 * m))) = (shownRow w m x y l i).map V.int :=
        cut_seg l fit e1 (by rw [e1, ew]; exact (Int.natCast_add _ _).symm)
      refine ⟨.ref o, rfl, .inl ⟨rfl, _, SqL.of eo⟩, _, rfl, _, rfl, _, rfl, _, rfl, _, rfl, _, _, rfl, rfl, _, rfl, b, _, rfl, SqL.of (sm _ _ hb), fun s1 n1 => ?_⟩
      have no1 : o ≠ s1 := ne_of_none eo n1
      refine ⟨o, s1, _, (shownRow w m x y l i).map V.int, rfl, rfl, (upd_ne no1).trans eo, upd_same.trans (congrArg (fun q => some (HO.lst q)) c1), ?_, ?_⟩
      · rw [List.length_map, List.length_map]
        have a1 := shownL_len w m x y l i
        have a2 : (shownRow w m x y l i).length ≤ w - 2 * m := seg_len_le _ _ _
        have a3 : i * (w - 2 * m) ≤ 256 * 256 := Nat.mul_le_mul (by omega) (by omega)
        have zl : 70000 ≤ sizeLine := by decide
        omega
      · refine ⟨_, _, rfl, fun b' z e => ?_, ?_⟩
        · rw [upd_ne (ne_of_none e no)]
          exact same_upd n1 _ _ (sm _ _ e)
        · rw [upd_same, Hs.shownL_succ, List.map_append]
    · rintro σ H1 ⟨v5, v6, rfl, sm, eo⟩
      exact ⟨_, rfl, q H1 o sm no eo⟩
/-! ### follow -/
theorem scFollow : FnScope ["self", "picture", "shift", "held", "nearer", "most", "kept", "told"] ["self", "picture"] (defScope sFollow) := ⟨rfl, rfl, rfl, by decide +kernel, rfl, by decide +kernel, by decide +kernel⟩
theorem hF_m1 {w h m sl fin bef pics mx my left top : V} : (hF w h m sl fin bef pics mx my left top).lookup ("gives_way" : Str) = none := by kernel_rfl
theorem fF_m1 {w h r : Nat} {sh : Addr} : (fF w h r sh).lookup ("found_shift" : Str) = none := by kernel_rfl
theorem ok_follow {f fF' fG fO fK : Addr} {fd fdF fdG fdO fdK : FuncData} (F : Fun K "follow" "Hold.follow" sFollow f fd) (T : Txt K mg CF CH)
    (GF : FnOk P w K mg base CX0 3 fF' fdF ["self", "before", "after"] (spFound CF)) (bF : Binds K fdF ["self", "before", "after"] []) (mF : Meth K CF "found_shift" fF')
    (GG : FnOk P w K mg base CX0 1 fG fdG ["self"] (spGives CH)) (bG : Binds K fdG ["self"] []) (mG : Meth K CH "gives_way" fG)
    (GO : FnOk P w K mg base CX0 1 fO fdO ["number", "aim"] spOne) (bO : Binds K fdO ["number", "aim"] []) (gO : mg "one_nearer" = some (.ref fO)) (kO : PySem.W.keepIn K (.ref fO) = true)
    (GK : FnOk P w K mg base CX0 1 fK fdK ["number", "most"] spKeep) (bK : Binds K fdK ["number", "most"] []) (gK : mg "kept_within" = some (.ref fK)) (kK : PySem.W.keepIn K (.ref fK) = true) :
    FnOk P w K mg base CX0 4 f fd ["self", "picture"] (spFollow CF CH) := by
  refine F.ok scFollow (fun vs H Q E h => ?_) (fun cdv A outer s H vs Q E hr h => ?_)
  · obtain ⟨a, b, dx, fin, bef, z, q, l, rfl, _⟩ := h
    rfl
  · obtain ⟨a, b, dx, fin, bef, z, pq, l, rfl, ha, hf, ⟨p, lb, rfl, hp, okb, rfl⟩, sz, hb, okl, q⟩ := h
    have hr1 : Room 1 _ := hr.mono (by decide)
    refine ⟨_, pss_cons (ps_set (i := 2) scFollow.nd rfl (.inl rfl) (pe_meth (pe_fld (pv 0) rfl) T.cF mF GF hr bF .nil pass0 (pa_cons (pe_fld (pv 0) rfl) (pa_cons (pv 1) pa_nil))))
      (pss_cons (ps_fldaug (pv 0) (pe_ix ix_tup (pv 2) pe_int (fun _ _ => rfl)) in_add)
      (pss_mid (ps_fldaug (pv 0) (pe_ix ix_tup (pv 2) pe_int (fun _ _ => rfl)) in_add)
      (pss_cons (ps_set (i := 3) scFollow.nd rfl (.inl rfl) (pe_tup (pa_cons (pe_op op_add (pe_fld (pv 0) rfl) (pe_ix ix_tup (pv 2) pe_int (fun _ _ => rfl))) (pa_cons (pe_op op_add (pe_fld (pv 0) rfl) (pe_ix ix_tup (pv 2) pe_int (fun _ _ => rfl))) pa_nil))))
      (pss_cons (ps_set (i := 4) scFollow.nd rfl (.inl rfl) (pv 3))
      (pss_mid (ps_if (pt_val (pe_meth0 (pv 0) T.cH mG GG hr1 bG .nil pass0))
        (pss_one (ps_set (i := 4) scFollow.nd rfl (.inl rfl) (pe_tup (pa_cons (pe_call GO hr1 (by rfl) gO kO bO .nil pass0 (pa_cons (pe_ix ix_tup (pv 3) pe_int (fun _ _ => rfl)) (pa_cons (pe_fld (pv 0) rfl) pa_nil))) (pa_cons (pe_call GO hr1 (by rfl) gO kO bO .nil pass0 (pa_cons (pe_ix ix_tup (pv 3) pe_int (fun _ _ => rfl)) (pa_cons (pe_fld (pv 0) rfl) pa_nil))) pa_nil))))) pss_nil)
      (pss_cons (ps_set (i := 5) scFollow.nd rfl (.inl rfl) (pe_op op_mul pe_int (pe_fld (pv 0) rfl)))
      (pss_cons (ps_set (i := 6) scFollow.nd rfl (.inl rfl) (pe_tup (pa_cons (pe_call GK hr1 (by rfl) gK kK bK .nil pass0 (pa_cons (pe_ix ix_tup (pv 4) pe_int (fun _ _ => rfl)) (pa_cons (pv 5) pa_nil))) (pa_cons (pe_call GK hr1 (by rfl) gK kK bK .nil pass0 (pa_cons (pe_ix ix_tup (pv 4) pe_int (fun _ _ => rfl)) (pa_cons (pv 5) pa_nil))) pa_nil))))
      (pss_cons (ps_fld (pv 0) (pe_ix ix_tup (pv 6) pe_int (fun _ _ => rfl)) rfl)
      (pss_mid (ps_fld (pv 0) (pe_ix ix_tup (pv 6) pe_int (fun _ _ => rfl)) rfl)
      (pss_cons (ps_set (i := 7) scFollow.nd rfl (.inl rfl) pe_int)
      (pss_mid (ps_if (pt_cmpR (op_neD hr.units) (pv 4) (pv 3) (nomark _)) (pss_one (ps_aug (i := 7) scFollow.nd rfl (.inl rfl) pe_int ip_add)) pss_nil)
      (pss_mid (ps_if (pt_cmpR (op_neD hr.units) (pv 6) (pv 4) (nomark _)) (pss_one (ps_aug (i := 7) scFollow.nd rfl (.inl rfl) pe_int ip_add)) pss_nil)
      (pss_one (ps_ret (pv 7))))))))))))))), ?_⟩
    -- shift = self.finder.found_shift(self.before, picture)
    have hfin := hf
    obtain ⟨dxf, shf, xsf, hfa, _⟩ := hf
    refine ⟨_, rfl, a, CH, dx, _, _, rfl, ha, T.cH, T.Hfin, lfin, fin, dxf, _, rfl, hfa, fF_m1, _, rfl, a, CH, dx, _, _, rfl, ha, T.cH, T.Hbef, lbef, _, rfl, ?_⟩
    refine ⟨fin, p, b, z.set.w, z.set.h, z.set.r, lb, l, rfl, hfin, hp, hb, sz, okb, okl, fun t H1 sm1 et => ?_⟩
    obtain ⟨d, ed⟩ : ∃ d, d = Hs.shiftOf z (toPic z.set.w z.set.h lb) (toPic z.set.w z.set.h l) := ⟨_, rfl⟩
    have et' : H1 t = some (.tup [.int d.1, .int d.2]) := by
      rw [ed]
      exact et
    rw [← ed] at q
    have ha1 := sm1 _ _ ha
    have nta : t ≠ a := ne_of et' ha1 (by intro z; cases z)
    -- self.moved_x += shift[0]; self.moved_y += shift[1]
    refine ⟨_, rfl, a, CH, dx, _, _, rfl, ha1, T.cH, T.Hmx, lmx, _, rfl, t, _, 0, .int d.1, rfl, rfl, SqT.of et', atI_nat (j := 0) rfl, _, _, rfl, rfl, dx, _, ha1, (by show 11 < 1000; decide), ?_⟩
    let F2 : List (Str × V) := hF (.int z.set.w) (.int z.set.h) (.int z.set.m) (.int z.set.slow) (.ref fin) (.ref p) (.int z.many) (.int (z.dx + d.1)) (.int (z.dy + d.2)) (.int z.x) (.int z.y)
    refine ⟨fun σ H2 => ∃ v3 v4 v5 v6 v7, σ = [some (.ref a), some (.ref b), some (.ref t), v3, v4, v5, v6, v7] ∧ H2 a = some (.ins CH dx F2) ∧ Kp H1 H2 a, ?_, ?_⟩
    · refine ⟨_, rfl, a, CH, dx, _, _, rfl, upd_same, T.cH, T.Hmy, (by rw [show zF z fin (.ref p) = hF _ _ _ _ _ _ _ _ _ _ _ from rfl, pmx]; exact lmy), _, rfl, t, _, 1, .int d.2, rfl, rfl, SqT.of ((upd_ne nta).trans et'), atI_nat (j := 1) rfl, _, _, rfl, rfl, dx, _, upd_same, (by show 11 < 1000; decide), ?_⟩
      refine ⟨_, _, _, _, _, rfl, ?_, fun b' o e nb => ?_⟩
      · rw [upd_same, show zF z fin (.ref p) = hF _ _ _ _ _ _ _ _ _ _ _ from rfl, pmx, pmy]
      · rw [upd_ne nb, upd_ne nb]
        exact e
    rintro σ H2 ⟨v3, v4, v5, v6, v7, rfl, ha2, k2⟩
    have et2 : H2 t = some (.tup [.int d.1, .int d.2]) := k2 _ _ et' nta
    -- held, nearer
    refine ⟨_, rfl, a, CH, dx, _, _, rfl, ha2, T.cH, T.Hleft, lleft, _, rfl, t, _, 0, .int d.1, rfl, rfl, SqT.of et2, atI_nat (j := 0) rfl, _, _, rfl, rfl,
      _, rfl, a, CH, dx, _, _, rfl, ha2, T.cH, T.Htop, ltop, _, rfl, t, _, 1, .int d.2, rfl, rfl, SqT.of et2, atI_nat (j := 1) rfl, _, _, rfl, rfl, (by show 2 ≤ sizeLine; decide), fun t1 n1 => ?_⟩
    have s3 := same_upd (o := .tup [.int (z.x + d.1), .int (z.y + d.2)]) n1
    refine ⟨_, rfl, ?_⟩
    refine ⟨fun σ H4 => ∃ tn v5 v6 v7, σ = [some (.ref a), some (.ref b), some (.ref t), some (.ref t1), some (.ref tn), v5, v6, v7] ∧ Same H2 H4 ∧ H4 t1 = some (.tup [.int (Hs.heldX z d), .int (Hs.heldY z d)]) ∧ H4 tn = some (.tup [.int (Hs.nearX z d), .int (Hs.nearY z d)]), ?_, ?_⟩
    · refine ⟨.ref a, rfl, a, dx, _, rfl, s3 _ _ ha2, hF_m1, ?_⟩
      refine ⟨a, dx, _, _, _, _, _, _, _, _, _, z, rfl, s3 _ _ ha2, _, rfl, ite2 (fun g => ?_) (fun g => ?_)⟩
      · have e1 : Hs.nearX z d = oneN (Hs.heldX z d) z.set.m := if_pos g
        have e2 : Hs.nearY z d = oneN (Hs.heldY z d) z.set.m := if_pos g
        refine ⟨_, rfl, t1, _, 0, .int (Hs.heldX z d), rfl, rfl, SqT.of upd_same, atI_nat (j := 0) rfl, _, rfl, a, CH, dx, _, _, rfl, s3 _ _ ha2, T.cH, T.Hm, lm, ?_⟩
        refine ⟨_, _, rfl, _, rfl, t1, _, 1, .int (Hs.heldY z d), rfl, rfl, SqT.of upd_same, atI_nat (j := 1) rfl, _, rfl, a, CH, dx, _, _, rfl, s3 _ _ ha2, T.cH, T.Hm, lm, ?_⟩
        refine ⟨_, _, rfl, (by show 2 ≤ sizeLine; decide), fun t4 n4 => ?_⟩
        have n41 : t1 ≠ t4 := ne_of_none upd_same n4
        refine ⟨t4, _, _, _, rfl, s3.trans (same_upd n4), (upd_ne n41).trans upd_same, ?_⟩
        rw [e1, e2]
        exact upd_same
      · have e1 : Hs.nearX z d = Hs.heldX z d := if_neg g
        have e2 : Hs.nearY z d = Hs.heldY z d := if_neg g
        refine ⟨t1, _, _, _, rfl, s3, upd_same, ?_⟩
        rw [e1, e2]
        exact upd_same
    rintro σ H4 ⟨tn, v5, v6, v7, rfl, s4, h1, hn⟩
    have ha4 := s4 _ _ ha2
    -- most, kept
    refine ⟨_, rfl, a, CH, dx, _, _, rfl, ha4, T.cH, T.Hm, lm, _, _, rfl, rfl, .inl ⟨by decide, by decide⟩, ?_⟩
    refine ⟨_, rfl, tn, _, 0, .int (Hs.nearX z d), rfl, rfl, SqT.of hn, atI_nat (j := 0) rfl, _, rfl, ?_⟩
    refine ⟨_, _, rfl, _, rfl, tn, _, 1, .int (Hs.nearY z d), rfl, rfl, SqT.of hn, atI_nat (j := 1) rfl, _, rfl, ?_⟩
    refine ⟨_, _, rfl, (by show 2 ≤ sizeLine; decide), fun t6 n6 => ?_⟩
    have s6 := same_upd (o := .tup [.int (Hs.keptX z d), .int (Hs.keptY z d)]) n6
    have ha6 := s6 _ _ ha4
    have h16 := s6 _ _ h1
    have hn6 := s6 _ _ hn
    have n6a : t6 ≠ a := fun e => by
      rw [e, ha4] at n6
      cases n6
    -- self.left = kept[0]; self.top = kept[1]
    refine ⟨_, rfl, t6, _, 0, .int (Hs.keptX z d), rfl, rfl, SqT.of upd_same, atI_nat (j := 0) rfl, _, rfl, a, CH, dx, _, rfl, ha6, T.cH, T.Hleft, (by show 11 < 1000; decide), ?_⟩
    refine ⟨fun σ H7 => ∃ v5 v7, σ = [some (.ref a), some (.ref b), some (.ref t), some (.ref t1), some (.ref tn), v5, some (.ref t6), v7] ∧ Kp H H7 a ∧ H7 a = some (.ins CH dx (hF (.int z.set.w) (.int z.set.h) (.int z.set.m) (.int z.set.slow) (.ref fin) (.ref p) (.int z.many) (.int (z.dx + d.1)) (.int (z.dy + d.2)) (.int (Hs.keptX z d)) (.int (Hs.keptY z d)))) ∧
      H7 t1 = some (.tup [.int (Hs.heldX z d), .int (Hs.heldY z d)]) ∧ H7 tn = some (.tup [.int (Hs.nearX z d), .int (Hs.nearY z d)]) ∧ H7 t6 = some (.tup [.int (Hs.keptX z d), .int (Hs.keptY z d)]), ?_, ?_⟩
    · refine ⟨_, rfl, t6, _, 1, .int (Hs.keptY z d), rfl, rfl, SqT.of ((upd_ne n6a).trans upd_same), atI_nat (j := 1) rfl, _, rfl, a, CH, dx, _, rfl, upd_same, T.cH, T.Htop, (by show 11 < 1000; decide), ?_⟩
      have kk : Kp (upd H4 t6 (.tup [.int (Hs.keptX z d), .int (Hs.keptY z d)])) (upd (upd (upd H4 t6 (.tup [.int (Hs.keptX z d), .int (Hs.keptY z d)])) a (.ins CH dx (putF "left" (.int (Hs.keptX z d)) F2))) a (.ins CH dx (putF "top" (.int (Hs.keptY z d)) (putF "left" (.int (Hs.keptX z d)) F2)))) a := fun b' o e nb => by
        rw [upd_ne nb, upd_ne nb]
        exact e
      refine ⟨_, _, rfl, fun b' o e nb => kk b' o (s6 _ _ (s4 _ _ (k2 _ _ (sm1 _ _ e) nb))) nb, ?_, kk.at ha6 h16 (by intro z; cases z), kk.at ha6 hn6 (by intro z; cases z), kk _ _ upd_same n6a⟩
      rw [upd_same, show F2 = hF _ _ _ _ _ _ _ _ _ _ _ from rfl, pleft, ptop]
    rintro σ H7 ⟨v5, v7, rfl, k7, ha7, h17, hn7, h67⟩
    -- told
    refine ⟨fun σ H8 => ∃ v5, σ = [some (.ref a), some (.ref b), some (.ref t), some (.ref t1), some (.ref tn), v5, some (.ref t6), some (.int (Hs.told1 z d))] ∧ H7 = H8, ?_, ?_⟩
    · refine ⟨_, rfl, _, rfl, _, _, dp2 hn7, dp2 h17, shaped2 _ _, shaped2 _ _, _, rfl, ite2 (fun e => ?_) (fun e => ?_)⟩
      · have e1 : Hs.told1 z d = 1 := if_pos ((ne2 _ _ _ _).mp e)
        refine ⟨_, rfl, _, _, rfl, rfl, v5, ?_, rfl⟩
        rw [e1]
        rfl
      · have e1 : Hs.told1 z d = 0 := if_neg fun x => e ((ne2 _ _ _ _).mpr x)
        refine ⟨v5, ?_, rfl⟩
        rw [e1]
        rfl
    rintro σ H8 ⟨v5, rfl, rfl⟩
    refine ⟨fun σ H8 => ∃ v5, σ = [some (.ref a), some (.ref b), some (.ref t), some (.ref t1), some (.ref tn), v5, some (.ref t6), some (.int (Hs.told z d))] ∧ H7 = H8, ?_, ?_⟩
    · refine ⟨_, rfl, _, rfl, _, _, dp2 h67, dp2 hn7, shaped2 _ _, shaped2 _ _, _, rfl, ite2 (fun e => ?_) (fun e => ?_)⟩
      · have e1 : Hs.told z d = Hs.told1 z d + 2 := if_pos ((ne2 _ _ _ _).mp e)
        refine ⟨_, rfl, _, _, rfl, rfl, v5, ?_, rfl⟩
        rw [e1]
        rfl
      · have e1 : Hs.told z d = Hs.told1 z d := if_neg fun x => e ((ne2 _ _ _ _).mpr x)
        refine ⟨v5, ?_, rfl⟩
        rw [e1]
    rintro σ H8 ⟨v5, rfl, rfl⟩
    exact ⟨_, rfl, q _ k7 ha7⟩
end
end HsP

/-! ## HsD6 -/
set_option maxRecDepth 100000
set_option maxHeartbeats 4000000
namespace HsP
open PySem PySem.Spec PyProof.Rows L2
open HsSort (ShAt spRank)
open Hs (Sh far RLe PicOk toPic rowd full part seg Ranked oneN keepW goes shownL shownRow Good S Cl)
section
variable {P : Program} {w : World} {K : PySem.W.Frag} {mg : Str → Option Value} {base : Heap} {CF CH : Addr}
theorem hF_m2 {w h m sl fin bef pics mx my left top : V} : (hF w h m sl fin bef pics mx my left top).lookup ("forget_pictures" : Str) = none := by kernel_rfl
theorem hF_m3 {w h m sl fin bef pics mx my left top : V} : (hF w h m sl fin bef pics mx my left top).lookup ("follow" : Str) = none := by kernel_rfl
theorem hF_m4 {w h m sl fin bef pics mx my left top : V} : (hF w h m sl fin bef pics mx my left top).lookup ("shown" : Str) = none := by kernel_rfl
theorem hF_split {w h m sl fin bef pics mx my left top : V} : hF w h m sl fin bef pics mx my left top = h5 w h m sl fin ++ h6 bef pics mx my left top := rfl
theorem refused {g a : Addr} {s : S} {H : Hp} {Q : VK} (hs : HoldAt CF CH g H a s) (q : Done CF CH g a (s, [-22]) H Q) : ∀ p, H p = none → Q (.ref p) (upd H p (.lst [.int (-22)])) := fun p np => by
  have sm := same_upd (o := .lst [.int (-22)]) np
  exact q _ p (hs.same sm) (fun b o e _ => sm b o e) np upd_same
theorem scBegin : FnScope ["self", "width", "height", "reach", "margin", "slow"] ["self", "width", "height", "reach", "margin", "slow"] (defScope sBegin) := ⟨rfl, rfl, rfl, by decide +kernel, rfl, by decide +kernel, by decide +kernel⟩
theorem ok_begin {f fS fR fI fG : Addr} {fd fdS fdR fdI fdG : FuncData} (F : Fun K "begin" "Hold.begin" sBegin f fd) (T : Txt K mg CF CH)
    (GS : FnOk P w K mg base CX0 1 fS fdS ["width", "height", "reach"] spSizes) (bS : Binds K fdS ["width", "height", "reach"] []) (gS : mg "sizes_are_right" = some (.ref fS)) (kS : PySem.W.keepIn K (.ref fS) = true)
    (GR : FnOk P w K mg base CX0 1 fR fdR [] spRefusal) (bR : Binds K fdR [] []) (gR : mg "refusal" = some (.ref fR)) (kR : PySem.W.keepIn K (.ref fR) = true)
    (MI : Mk K CF fI) (GI : FnOk P w K mg base CX0 5 fI fdI ["self", "width", "height", "reach"] (spFInit CF)) (bI : Binds K fdI ["self", "width", "height", "reach"] [])
    (GG : FnOk P w K mg base CX0 1 fG fdG ["self"] (spForget CH)) (bG : Binds K fdG ["self"] []) (mG : Meth K CH "forget_pictures" fG) :
    FnOk P w K mg base CX0 7 f fd ["self", "width", "height", "reach", "margin", "slow"] (spBegin CF CH) := by
  obtain ⟨t4, g4⟩ := T.g4
  refine F.ok scBegin (fun vs H Q E h => ?_) (fun cdv A outer s H vs Q E hr h => ?_)
  · obtain ⟨g, a, s, w, h, r, m, sl, rfl, _⟩ := h
    rfl
  · obtain ⟨g, a, st, w, h, r, m, sl, rfl, hs, w0, h0, r0, m0, s0, q⟩ := h
    have hr1 : Room 1 _ := hr.mono (by decide)
    obtain ⟨w, rfl⟩ := Int.eq_ofNat_of_zero_le w0
    obtain ⟨h, rfl⟩ := Int.eq_ofNat_of_zero_le h0
    obtain ⟨r, rfl⟩ := Int.eq_ofNat_of_zero_le r0
    obtain ⟨m, rfl⟩ := Int.eq_ofNat_of_zero_le m0
    obtain ⟨sl, rfl⟩ := Int.eq_ofNat_of_zero_le s0
    obtain ⟨z, ez⟩ : ∃ z : Kh289.Set_, z = ⟨w, h, r, m, sl⟩ := ⟨_, rfl⟩
    rw [Hs.step_begin, show Hs.setOf (w : Int) (h : Int) (r : Int) (m : Int) (sl : Int) = z by rw [ez]; rfl] at q
    refine ⟨_, pss_cons (ps_if (pt_not (pt_val (pe_call GS hr1 (by rfl) gS kS bS .nil pass0 (pa_cons (pv 1) (pa_cons (pv 2) (pa_cons (pv 3) pa_nil)))))) (pss_one (ps_ret (pe_call0 GR hr1 (by rfl) gR kR bR .nil pass0))) pss_nil)
      (pss_cons (ps_if (PW.pt (pw_or (pt_cmpR op_ge (pe_op op_mul pe_int (pv 4)) (pv 1) (nomark _)) (pw_or (pt_cmpR op_ge (pe_op op_mul pe_int (pv 4)) (pv 2) (nomark _)) (pw_or1 (pt_cmpR op_gt (pv 5) (pe_glob rfl g4 (relI 65535 t4)) (nomark _)))))) (pss_one (ps_ret (pe_call0 GR hr1 (by rfl) gR kR bR .nil pass0))) pss_nil)
      (pss_cons (ps_fld (pv 0) (pv 1) rfl) (pss_cons (ps_fld (pv 0) (pv 2) rfl) (pss_cons (ps_fld (pv 0) (pv 4) rfl) (pss_mid (ps_fld (pv 0) (pv 5) rfl)
      (pss_cons (ps_fld (pv 0) (pe_make MI GI hr (by rfl) T.gF bI .nil pass0 (pa_cons (pv 1) (pa_cons (pv 2) (pa_cons (pv 3) pa_nil)))) rfl)
      (pss_cons (ps_expr (pe_meth0 (pv 0) T.cH mG GG hr1 bG .nil pass0))
      (pss_one (ps_ret (pe_lst (pa_cons pe_int pa_nil))))))))))), ?_⟩
    have no : Kh289.okSet z = false → ∀ p, H p = none → Q (.ref p) (upd H p (.lst [.int (-22)])) := fun e => by
      rw [if_neg (by rw [e]; decide)] at q
      exact refused hs q
    refine ⟨_, rfl, _, rfl, _, rfl, w, h, r, rfl, w0, h0, r0, _, rfl, ?_⟩
    cases e1 : Kh288.okSize (w : Int).toNat (h : Int).toNat (r : Int).toNat with
    | false =>
      refine iteT ⟨rfl, no ?_⟩
      cases e2 : Kh289.okSet z with
      | false => rfl
      | true =>
        have e3 := (Hs.okSet_iff.mp e2).1
        rw [ez] at e3
        have e4 : Kh288.okSize w h r = true := Hs.okSize_iff.mpr e3
        have e5 : Kh288.okSize w h r = false := e1
        rw [e5] at e4
        cases e4
    | true =>
      have e5 := Hs.okSize_iff.mp (show Kh288.okSize w h r = true from e1)
      refine iteF ?_
      -- the way of a refusal
      have no2 : (w ≤ 2 * m ∨ h ≤ 2 * m ∨ 65535 < sl) → ∀ p, H p = none → Q (.ref p) (upd H p (.lst [.int (-22)])) := fun x => no (by
        cases e2 : Kh289.okSet z with
        | false => rfl
        | true =>
          have e3 := (Hs.okSet_iff.mp e2).2
          rw [ez] at e3
          dsimp only at e3
          omega)
      refine ⟨_, rfl, _, _, rfl, rfl, .inl ⟨by decide, by decide⟩, _, rfl, _, _, rfl, rfl, _, rfl, ite2 (fun c1 => ?_) (fun c1 => ?_)⟩
      · have c1' : (w : Int) ≤ 2 * m := of_decide_eq_true c1
        exact iteT ⟨rfl, no2 (.inl (by omega))⟩
      have c1' : ¬ (w : Int) ≤ 2 * m := fun x => c1 (decide_eq_true x)
      refine ⟨_, rfl, _, _, rfl, rfl, .inl ⟨by decide, by decide⟩, _, rfl, _, _, rfl, rfl, _, rfl, ite2 (fun c2 => ?_) (fun c2 => ?_)⟩
      · have c2' : (h : Int) ≤ 2 * m := of_decide_eq_true c2
        exact iteT ⟨rfl, no2 (.inr (.inl (by omega)))⟩
      have c2' : ¬ (h : Int) ≤ 2 * m := fun x => c2 (decide_eq_true x)
      refine ⟨_, rfl, _, _, rfl, rfl, _, rfl, ite2 (fun c3 => ?_) (fun c3 => ?_)⟩
      · have c3' : (65535 : Int) < sl := of_decide_eq_true c3
        exact ⟨rfl, no2 (.inr (.inr (by omega)))⟩
      have c3' : ¬ (65535 : Int) < sl := fun x => c3 (decide_eq_true x)
      have ok : Kh289.okSet z = true := by
        rw [ez]
        exact Hs.okSet_iff.mpr ⟨e5, by show 2 * m < w; omega, by show 2 * m < h; omega, by show sl ≤ 65535; omega⟩
      rw [if_pos ok] at q
      obtain ⟨dx, ow, oh, om, osl, ofin, obef, opics, omx, omy, oleft, otop, ha⟩ := hs.any
      refine ⟨_, rfl, _, rfl, a, CH, dx, _, rfl, ha, T.cH, T.Hw, (by show 11 < 1000; decide), ?_⟩
      refine ⟨_, rfl, _, rfl, a, CH, dx, _, rfl, upd_same, T.cH, T.Hh, (by rw [pw]; show 11 < 1000; decide), ?_⟩
      refine ⟨_, rfl, _, rfl, a, CH, dx, _, rfl, upd_same, T.cH, T.Hm, (by rw [pw, ph]; show 11 < 1000; decide), ?_⟩
      refine ⟨fun σ H1 => σ = [some (.ref a), some (.int w), some (.int h), some (.int r), some (.int m), some (.int sl)] ∧ Kp H H1 a ∧ H1 a = some (.ins CH dx (hF (.int w) (.int h) (.int m) (.int sl) ofin obef opics omx omy oleft otop)), ?_, ?_⟩
      · refine ⟨_, rfl, _, rfl, a, CH, dx, _, rfl, upd_same, T.cH, T.Hsl, (by rw [pw, ph, pm]; show 11 < 1000; decide), ?_⟩
        refine ⟨rfl, fun b o e nb => ?_, ?_⟩
        · rw [upd_ne nb, upd_ne nb, upd_ne nb, upd_ne nb]
          exact e
        · rw [upd_same, pw, ph, pm, psl]
      rintro σ H1 ⟨rfl, k1, ha1⟩
      refine ⟨_, rfl, _, rfl, _, rfl, fun x dx' nx nd ne => ?_⟩
      refine ⟨x, dx', w, h, r, rfl, upd_same, e5.1, fun H2 fin2 k2 => ⟨rfl, ?_⟩⟩
      have sm2 : Same H1 H2 := Same.made nx nd k2
      have ha2 := sm2 _ _ ha1
      refine ⟨_, rfl, a, CH, dx, _, rfl, ha2, T.cH, T.Hfin, (by show 11 < 1000; decide), ?_⟩
      refine ⟨.ref a, rfl, a, dx, _, rfl, upd_same, (by rw [pfin]; exact hF_m2), ?_⟩
      refine ⟨a, dx, .int w, .int h, .int m, .int sl, .ref x, h6 obef opics omx omy oleft otop, rfl, (by rw [upd_same, pfin]; rfl), .inr ⟨_, _, _, _, _, _, rfl⟩, fun H3 e3 => ?_⟩
      rw [upd_upd] at e3
      have ha3 : H3 a = some (.ins CH dx (hF (.int w) (.int h) (.int m) (.int sl) (.ref x) .non (.int 0) (.int 0) (.int 0) (.int m) (.int m))) := by
        rw [e3]
        exact upd_same
      have k3 : Kp H2 H3 a := fun b o e nb => by
        rw [e3, upd_ne nb]
        exact e
      refine ⟨(by show 1 ≤ sizeLine; decide), fun p np => ?_⟩
      have s4 := same_upd (o := .lst [.int 0]) np
      have f3 : FinAt CF H3 x w h r := fin2.keep k3 ha2 (by rw [hF_len]; decide)
      have np0 : H p = none := by
        cases e : H p with
        | none => rfl
        | some o =>
          by_cases hpa : p = a
          · rw [hpa, ha3] at np
            cases np
          · have e1 := k3 p o (sm2 p o (k1 p o e hpa)) hpa
            rw [np] at e1
            cases e1
      refine q _ p ?_ (fun b o e nb => s4 b o (k3 b o (sm2 b o (k1 b o e nb)) nb)) np0 upd_same
      rw [ez]
      exact ⟨dx, x, .non, s4 _ _ ha3, f3.same s4, rfl, fun e => by cases e⟩
end
end HsP

/-! ## HsD7 -/
set_option maxRecDepth 100000
set_option maxHeartbeats 4000000
namespace HsP
open PySem PySem.Spec PyProof.Rows L2
open HsSort (ShAt spRank)
open Hs (Sh far RLe PicOk toPic rowd full part seg Ranked oneN keepW goes shownL shownRow Good S Cl)
/-- what follow leaves of a state, ahead of the new picture -/
structure Moved2 (z : Kh289.Abs) (l : List Int) (tl dx dy x y : Int) : Prop where
  ans : Hs.frameAns z l = tl :: x :: y :: shownL z.set.w z.set.m x y l (z.set.h - 2 * z.set.m)
  aft : Hs.afterF z l = ⟨z.set, some (toPic z.set.w z.set.h l), x, y, dx, dy, z.many + 1⟩
  x0 : 0 ≤ x
  x1 : x ≤ 2 * z.set.m
  y0 : 0 ≤ y
  y1 : y ≤ 2 * z.set.m
theorem moved_none {z : Kh289.Abs} {l : List Int} (g : Good z) (h : z.last = none) : Moved2 z l 0 z.dx z.dy z.x z.y := by
  refine ⟨?_, ?_, g.x0, g.x1, g.y0, g.y1⟩
  · unfold Hs.frameAns
    rw [h]
  · rw [Hs.after_none h, g.none0 h]
theorem moved_some {z : Kh289.Abs} {l : List Int} {q : Kh288.Pic} (h : z.last = some q) :
    Moved2 z l (Hs.told z (Hs.shiftOf z q (toPic z.set.w z.set.h l))) (z.dx + (Hs.shiftOf z q (toPic z.set.w z.set.h l)).1) (z.dy + (Hs.shiftOf z q (toPic z.set.w z.set.h l)).2)
      (Hs.keptX z (Hs.shiftOf z q (toPic z.set.w z.set.h l))) (Hs.keptY z (Hs.shiftOf z q (toPic z.set.w z.set.h l))) := by
  obtain ⟨⟨k0, k1⟩, k2, k3⟩ := Hs.kept_in z (Hs.shiftOf z q (toPic z.set.w z.set.h l))
  refine ⟨?_, ?_, k0, k1, k2, k3⟩
  · unfold Hs.frameAns
    rw [h]
  · rw [Hs.after_some h]
    rfl
section
variable {P : Program} {w : World} {K : PySem.W.Frag} {mg : Str → Option Value} {base : Heap} {CF CH : Addr}
theorem scFrame : FnScope ["self", "width", "height", "margin", "picture", "told"] ["self", "width", "height", "margin", "picture"] (defScope sFrame) := ⟨rfl, rfl, rfl, by decide +kernel, rfl, by decide +kernel, by decide +kernel⟩
theorem ok_frame {f fR fO fS : Addr} {fd fdR fdO fdS : FuncData} (F : Fun K "frame" "Hold.frame" sFrame f fd) (T : Txt K mg CF CH)
    (GR : FnOk P w K mg base CX0 1 fR fdR [] spRefusal) (bR : Binds K fdR [] []) (gR : mg "refusal" = some (.ref fR)) (kR : PySem.W.keepIn K (.ref fR) = true)
    (GO : FnOk P w K mg base CX0 4 fO fdO ["self", "picture"] (spFollow CF CH)) (bO : Binds K fdO ["self", "picture"] []) (mO : Meth K CH "follow" fO)
    (GS : FnOk P w K mg base CX0 1 fS fdS ["self", "picture"] (spShown CH)) (bS : Binds K fdS ["self", "picture"] []) (mS : Meth K CH "shown" fS) :
    FnOk P w K mg base CX0 5 f fd ["self", "width", "height", "margin", "picture"] (spFrame CF CH) := by
  refine F.ok scFrame (fun vs H Q E h => ?_) (fun cdv A outer s H vs Q E hr h => ?_)
  · obtain ⟨gg, a, b, z, w, h, m, l, rfl, _⟩ := h
    rfl
  · obtain ⟨gg, a, b, z, w, h, m, l, rfl, nbg, hs, g, hb, w0, h0, m0, okl, q⟩ := h
    have hr1 : Room 1 _ := hr.mono (by decide)
    obtain ⟨dx, fin, bef, ha, hfin, hbef, _⟩ := id hs
    rw [Hs.step_frame] at q
    refine ⟨_, pss_cons (ps_if (PW.pt (pw_or (pt_cmpR op_ne (pv 1) (pe_fld (pv 0) rfl) (nomark _)) (pw_or (pt_cmpR op_ne (pv 2) (pe_fld (pv 0) rfl) (nomark _)) (pw_or1 (pt_cmpR op_ne (pv 3) (pe_fld (pv 0) rfl) (nomark _)))))) (pss_one (ps_ret (pe_call0 GR hr1 (by rfl) gR kR bR .nil pass0))) pss_nil)
      (pss_cons (ps_set (i := 5) scFrame.nd rfl (.inl rfl) pe_int)
      (pss_mid (ps_if (pt_cmpR op_notN (pe_fld (pv 0) rfl) pe_non (nomark _)) (pss_one (ps_set (i := 5) scFrame.nd rfl (.inl rfl) (pe_meth (pv 0) T.cH mO GO hr bO .nil pass0 (pa_cons (pv 4) pa_nil)))) pss_nil)
      (pss_cons (ps_fld (pv 0) (pv 4) rfl)
      (pss_mid (ps_fldaug (pv 0) pe_int in_add)
      (pss_one (ps_ret (pe_op op_cat (pe_lst (pa_cons (pv 5) (pa_cons (pe_fld (pv 0) rfl) (pa_cons (pe_fld (pv 0) rfl) pa_nil)))) (pe_meth (pv 0) T.cH mS GS hr1 bS .nil pass0 (pa_cons (pv 4) pa_nil))))))))), ?_⟩
    have no : ¬ (w.toNat = z.set.w ∧ h.toNat = z.set.h ∧ m.toNat = z.set.m) → ∀ p, H p = none → Q (.ref p) (upd H p (.lst [.int (-22)])) := fun e => by
      rw [if_neg e] at q
      exact refused hs q
    refine ⟨_, rfl, _, rfl, a, CH, dx, _, _, rfl, ha, T.cH, T.Hw, lw, rfl, _, rfl, ?_⟩
    by_cases d1 : ¬ w = (z.set.w : Int)
    · rw [decide_eq_false fun x => d1 (V.int.inj x)]
      exact ⟨rfl, no fun x => d1 (by omega)⟩
    have c1 : w = (z.set.w : Int) := Decidable.not_not.mp d1
    rw [decide_eq_true (show V.int w = V.int (z.set.w : Int) by rw [c1])]
    refine ⟨_, rfl, _, rfl, a, CH, dx, _, _, rfl, ha, T.cH, T.Hh, lh, rfl, _, rfl, ?_⟩
    by_cases d2 : ¬ h = (z.set.h : Int)
    · rw [decide_eq_false fun x => d2 (V.int.inj x)]
      exact ⟨rfl, no fun x => d2 (by omega)⟩
    have c2 : h = (z.set.h : Int) := Decidable.not_not.mp d2
    rw [decide_eq_true (show V.int h = V.int (z.set.h : Int) by rw [c2])]
    refine ⟨_, rfl, _, rfl, a, CH, dx, _, _, rfl, ha, T.cH, T.Hm, lm, rfl, _, rfl, ?_⟩
    by_cases d3 : ¬ m = (z.set.m : Int)
    · rw [decide_eq_false fun x => d3 (V.int.inj x)]
      exact ⟨rfl, no fun x => d3 (by omega)⟩
    have c3 : m = (z.set.m : Int) := Decidable.not_not.mp d3
    rw [decide_eq_true (show V.int m = V.int (z.set.m : Int) by rw [c3])]
    have cc : w.toNat = z.set.w ∧ h.toNat = z.set.h ∧ m.toNat = z.set.m := by omega
    have ok := okl cc.1 cc.2.1
    rw [if_pos cc, cc.1, cc.2.1, Hs.frame_ans g ok] at q
    have oks := Hs.okSet_iff.mp g.set
    have sz : Sizes z.set.w z.set.h z.set.r := ⟨oks.1.1, oks.1.2.1, oks.1.2.2.1, oks.1.2.2.2.1, oks.1.2.2.2.2⟩
    -- told, and where what is shown lies
    refine ⟨fun σ H1 => ∃ tl mx my x y, σ = [some (.ref a), some (.int w), some (.int h), some (.int m), some (.ref b), some (.int tl)] ∧ Kp H H1 a ∧
      H1 a = some (.ins CH dx (hF (.int z.set.w) (.int z.set.h) (.int z.set.m) (.int z.set.slow) (.ref fin) bef (.int z.many) (.int mx) (.int my) (.int x) (.int y))) ∧ Moved2 z l tl mx my x y, ?_, ?_⟩
    · refine ⟨_, rfl, a, CH, dx, _, _, rfl, ha, T.cH, T.Hbef, lbef, rfl, _, rfl, ?_⟩
      cases e : z.last with
      | none =>
        rw [e] at hbef
        have eb : bef = .non := hbef
        rw [eb] at ha ⊢
        rw [decide_eq_true (show V.non = V.non from rfl)]
        exact ⟨0, z.dx, z.dy, z.x, z.y, rfl, fun _ _ e _ => e, ha, moved_none g e⟩
      | some pq =>
        rw [e] at hbef
        obtain ⟨p, lb, eb, h1, h2, h3⟩ := id hbef
        rw [decide_eq_false (show ¬ bef = V.non by rw [eb]; intro x; cases x)]
        refine ⟨.ref a, rfl, a, dx, _, rfl, ha, hF_m3, _, rfl, ?_⟩
        refine ⟨a, b, dx, fin, bef, z, pq, l, rfl, ha, hfin, hbef, sz, hb, ok, fun H1 k1 ha1 => ?_⟩
        exact ⟨_, _, _, _, _, rfl, k1, ha1, moved_some e⟩
    rintro σ H1 ⟨tl, mx, my, x, y, rfl, k1, ha1, M⟩
    -- self.before = picture; self.pictures += 1
    refine ⟨_, rfl, _, rfl, a, CH, dx, _, rfl, ha1, T.cH, T.Hbef, (by show 11 < 1000; decide), ?_⟩
    refine ⟨fun σ H2 => σ = [some (.ref a), some (.int w), some (.int h), some (.int m), some (.ref b), some (.int tl)] ∧ Kp H H2 a ∧
      H2 a = some (.ins CH dx (hF (.int z.set.w) (.int z.set.h) (.int z.set.m) (.int z.set.slow) (.ref fin) (.ref b) (.int ((z.many + 1 : Nat) : Int)) (.int mx) (.int my) (.int x) (.int y))), ?_, ?_⟩
    · refine ⟨_, rfl, a, CH, dx, _, _, rfl, upd_same, T.cH, T.Hpics, (by rw [pbef]; exact lpics), _, _, rfl, rfl, dx, _, upd_same, (by rw [pbef]; show 11 < 1000; decide), ?_⟩
      refine ⟨rfl, fun b' o e nb => ?_, ?_⟩
      · rw [upd_ne nb, upd_ne nb]
        exact k1 _ _ e nb
      · rw [upd_same, pbef, ppics]
        rfl
    rintro σ H2 ⟨rfl, k2, ha2⟩
    have hb2 : H2 b = some (.lst (l.map V.int)) := k2.at ha hb (by intro z; cases z)
    refine ⟨_, rfl, _, rfl, a, CH, dx, _, _, rfl, ha2, T.cH, T.Hleft, lleft, _, rfl, a, CH, dx, _, _, rfl, ha2, T.cH, T.Htop, ltop, (by show 3 ≤ sizeLine; decide), fun l1 n1 => ?_⟩
    have s3 := same_upd (o := .lst [.int tl, .int x, .int y]) n1
    refine ⟨.ref a, rfl, a, dx, _, rfl, s3 _ _ ha2, hF_m4, _, rfl, ?_⟩
    refine ⟨a, b, dx, z.set.w, z.set.h, z.set.m, _, _, _, _, _, _, x, y, l, rfl, s3 _ _ ha2, s3 _ _ hb2, ok, sz.w2, sz.h2, oks.2.1, oks.2.2.1, M.x0, M.x1, M.y0, M.y1, fun H4 p4 s4 n4 e4 => ?_⟩
    have zl : 70000 ≤ sizeLine := by decide
    refine ⟨l1, p4, [.int tl, .int x, .int y], _, rfl, rfl, s4 _ _ upd_same, e4, ?_, fun p np => ?_⟩
    · rw [List.length_map]
      have a1 := shownL_len z.set.w z.set.m x y l (z.set.h - 2 * z.set.m)
      have a3 : (z.set.h - 2 * z.set.m) * (z.set.w - 2 * z.set.m) ≤ 256 * 256 := Nat.mul_le_mul (by have := sz.h2; omega) (by have := sz.w2; omega)
      show 3 + _ ≤ _
      omega
    have s5 := same_upd (o := .lst ([V.int tl, .int x, .int y] ++ (shownL z.set.w z.set.m x y l (z.set.h - 2 * z.set.m)).map V.int)) np
    have sm : Same H2 (upd H4 p (.lst ([V.int tl, .int x, .int y] ++ (shownL z.set.w z.set.m x y l (z.set.h - 2 * z.set.m)).map V.int))) := fun b' o e => s5 _ _ (s4 _ _ (s3 _ _ e))
    have k5 : Kp H (upd H4 p (.lst ([V.int tl, .int x, .int y] ++ (shownL z.set.w z.set.m x y l (z.set.h - 2 * z.set.m)).map V.int))) a := fun b' o e nb => sm _ _ (k2 _ _ e nb)
    have np0 : H p = none := by
      cases e : H p with
      | none => rfl
      | some o =>
        by_cases hpa : p = a
        · have e1 := s4 _ _ (s3 _ _ ha2)
          rw [← hpa, np] at e1
          cases e1
        · have e1 := s4 _ _ (s3 _ _ (k2 _ _ e hpa))
          rw [np] at e1
          cases e1
    refine q _ p ?_ k5 np0 ?_
    · show HoldAt CF CH gg _ a (some (Hs.afterF z l))
      rw [M.aft]
      exact ⟨dx, fin, .ref b, sm _ _ ha2, hfin.keep k5 ha (by show 11 ≠ 4; decide), ⟨b, l, rfl, sm _ _ hb2, ok, rfl⟩, fun e => nbg (V.ref.inj e)⟩
    · rw [upd_same, M.ans]
      rfl
end
end HsP

/-! ## HsD8 -/
set_option maxRecDepth 100000
set_option maxHeartbeats 4000000
namespace HsP
open PySem PySem.Spec PyProof.Rows L2
open HsSort (ShAt spRank)
open Hs (Sh far RLe PicOk toPic rowd full part seg Ranked oneN keepW goes shownL shownRow Good S Cl)
theorem at_drop {l rest : List Int} {i k : Nat} {x : Int} (e : l.drop i = rest) (h : rest[k]? = some x) : atI (l.map V.int) ((i + k : Nat) : Int) = some (.int x) := by
  refine atI_nat ?_
  rw [List.getElem?_map]
  have e1 : l[i + k]? = some x := by
    rw [← List.getElem?_drop, e]
    exact h
  rw [e1]
  rfl
theorem len_drop {l rest : List Int} {i : Nat} (e : l.drop i = rest) : rest.length = l.length - i := by
  rw [← e, List.length_drop]
section
variable {P : Program} {w : World} {K : PySem.W.Frag} {mg : Str → Option Value} {base : Heap} {CF CH : Addr}
theorem scLen : FnScope ["calls", "start"] ["calls", "start"] (defScope sLen) := ⟨rfl, rfl, rfl, by decide +kernel, rfl, by decide +kernel, by decide +kernel⟩
theorem ok_len {f : Addr} {fd : FuncData} (F : Fun K "call_length" "call_length" sLen f fd) (T : Txt K mg CF CH) : FnOk P w K mg base CX0 1 f fd ["calls", "start"] (spLen K) := by
  obtain ⟨t5, g5⟩ := T.g5
  obtain ⟨t6, g6⟩ := T.g6
  obtain ⟨t7, g7⟩ := T.g7
  obtain ⟨t8, g8⟩ := T.g8
  obtain ⟨t9, g9⟩ := T.g9
  refine F.ok scLen (fun vs H Q E h => ?_) (fun cdv A outer s H vs Q E hr h => ?_)
  · obtain ⟨c, i, l, t, cl, rfl, _⟩ := h
    rfl
  · obtain ⟨c, i, l, t, cl, rfl, hS, hl, hF, q⟩ := h
    refine ⟨_, pss_cons (ps_if (pt_cmpR op_eq (pe_ix ix_list (pv 0) (pv 1) (fun _ _ => rfl)) (pe_glob rfl g5 (relI 0 t5)) (nomark _)) (pss_one (ps_ret (pe_glob rfl g7 (relI 6 t7)))) pss_nil)
      (pss_cons (ps_if (pt_cmpR op_eq (pe_ix ix_list (pv 0) (pv 1) (fun _ _ => rfl)) (pe_glob rfl g6 (relI 1 t6)) (nomark _)) (pss_one (ps_ret (pe_op op_add (pe_glob rfl g8 (relI 5 t8)) (pe_ix ix_list (pv 0) (pe_op op_sub (pe_op op_add (pv 1) (pe_glob rfl g8 (relI 5 t8))) pe_int) (fun _ _ => rfl))))) pss_nil)
      (pss_one (ps_ret (pe_glob rfl g9 (relI 1 t9))))), ?_⟩
    generalize hd : l.drop i = rest at hF q
    have first : ∀ p r, rest = p :: r → atI (l.map V.int) (i : Int) = some (.int p) := fun p r e => by
      have := at_drop (k := 0) (x := p) hd (by rw [e]; rfl)
      exact this
    have lr := len_drop hd
    cases hF with
    | beg w h r m s t =>
      refine ⟨_, rfl, _, rfl, c, _, _, .int 0, rfl, rfl, hS, first _ _ rfl, rfl, _, rfl, iteT ?_⟩
      have n6 : i + 6 ≤ l.length := by
        simp only [List.length_cons] at lr
        omega
      refine q 6 n6 (by decide) ?_ (.beg w h r m s)
      rw [← List.drop_drop, hd]
      rfl
    | frm w h m n u n0 nl =>
      refine ⟨_, rfl, _, rfl, c, _, _, .int 1, rfl, rfl, hS, first _ _ rfl, rfl, _, rfl, iteF ?_⟩
      refine ⟨_, rfl, _, rfl, c, _, _, .int 1, rfl, rfl, hS, first _ _ rfl, rfl, _, rfl, iteT ?_⟩
      have e4 : (i : Int) + 5 - 1 = ((i + 4 : Nat) : Int) := by omega
      refine ⟨_, rfl, _, rfl, _, _, rfl, rfl, _, _, rfl, rfl, c, _, _, .int n, rfl, rfl, hS, (by rw [e4]; exact at_drop (k := 4) hd rfl), _, _, rfl, rfl, ?_⟩
      have n5 : i + (5 + n.toNat) ≤ l.length := by
        simp only [List.length_cons] at lr
        omega
      have e5 : (5 : Int) + n = ((5 + n.toNat : Nat) : Int) := by omega
      have q2 := q (5 + n.toNat) n5 (by omega) ?_ ?_
      · rw [← e5] at q2
        exact q2
      · rw [← List.drop_drop, hd, Nat.add_comm 5]
        rfl
      · rw [Nat.add_comm 5]
        exact .frm w h m n _
    | whr t =>
      refine ⟨_, rfl, _, rfl, c, _, _, .int 2, rfl, rfl, hS, first _ _ rfl, rfl, _, rfl, iteF ?_⟩
      refine ⟨_, rfl, _, rfl, c, _, _, .int 2, rfl, rfl, hS, first _ _ rfl, rfl, _, rfl, iteF ?_⟩
      have n1 : i + 1 ≤ l.length := by
        simp only [List.length_cons] at lr
        omega
      refine q 1 n1 (by decide) ?_ .whr
      rw [← List.drop_drop, hd]
      rfl
/-! ### call_answer -/
theorem scCall : FnScope ["hold", "call"] ["hold", "call"] (defScope sCall) := ⟨rfl, rfl, rfl, by decide +kernel, rfl, by decide +kernel, by decide +kernel⟩
theorem hF_m5 {w h m sl fin bef pics mx my left top : V} : (hF w h m sl fin bef pics mx my left top).lookup ("begin" : Str) = none := by kernel_rfl
theorem hF_m6 {w h m sl fin bef pics mx my left top : V} : (hF w h m sl fin bef pics mx my left top).lookup ("frame" : Str) = none := by kernel_rfl
theorem hF_m7 {w h m sl fin bef pics mx my left top : V} : (hF w h m sl fin bef pics mx my left top).lookup ("where" : Str) = none := by kernel_rfl
theorem Done.more {g a : Addr} {st : S × List Int} {H H1 : Hp} {Q : VK} (d : Done CF CH g a st H Q) (sm : Same H H1) : Done CF CH g a st H1 Q := fun H' p h k n e => d H' p h (fun b o z nb => k b o (sm b o z) nb) (sm.free n) e
theorem cut5 (xs : List V) (h : 5 ≤ xs.length) : cutV xs (some 5) none = xs.drop 5 := by
  unfold cutV
  rw [show HT.sIx xs.length 0 (some 5) = min 5 xs.length from HT.sIx_nat xs.length 0 5, HT.sIx_none, Nat.min_eq_left h]
  refine List.take_of_length_le ?_
  rw [List.length_drop]
  exact Nat.le_refl _
theorem ok_call {f fB fF' fW : Addr} {fd fdB fdF fdW : FuncData} (F : Fun K "call_answer" "call_answer" sCall f fd) (T : Txt K mg CF CH)
    (GB : FnOk P w K mg base CX0 7 fB fdB ["self", "width", "height", "reach", "margin", "slow"] (spBegin CF CH)) (bB : Binds K fdB ["self", "width", "height", "reach", "margin", "slow"] []) (mB : Meth K CH "begin" fB)
    (GF : FnOk P w K mg base CX0 5 fF' fdF ["self", "width", "height", "margin", "picture"] (spFrame CF CH)) (bF : Binds K fdF ["self", "width", "height", "margin", "picture"] []) (mF : Meth K CH "frame" fF')
    (GW : FnOk P w K mg base CX0 1 fW fdW ["self"] (spWhere CF CH)) (bW : Binds K fdW ["self"] []) (mW : Meth K CH "where" fW) :
    FnOk P w K mg base CX0 8 f fd ["hold", "call"] (spCall CF CH) := by
  obtain ⟨t5, g5⟩ := T.g5
  obtain ⟨t6, g6⟩ := T.g6
  obtain ⟨t8, g8⟩ := T.g8
  refine F.ok scCall (fun vs H Q E h => ?_) (fun cdv A outer s H vs Q E hr h => ?_)
  · obtain ⟨gg, a, c, st, l, cl, rfl, _⟩ := h
    rfl
  · obtain ⟨gg, a, c, st, l, cl, rfl, ⟨og, hog⟩, hs, hc, hcl, hg, hask, hchk, q⟩ := h
    have hr1 : Room 1 _ := hr.mono (by decide)
    have hr5 : Room 5 _ := hr.mono (by decide)
    refine ⟨_, pss_cons (ps_if (pt_cmpR op_eq (pe_ix ix_list (pv 1) pe_int (fun _ _ => rfl)) (pe_glob rfl g5 (relI 0 t5)) (nomark _)) (pss_one (ps_ret (pe_meth (pv 0) T.cH mB GB hr bB .nil pass0
          (pa_cons (pe_ix ix_list (pv 1) pe_int (fun _ _ => rfl)) (pa_cons (pe_ix ix_list (pv 1) pe_int (fun _ _ => rfl)) (pa_cons (pe_ix ix_list (pv 1) pe_int (fun _ _ => rfl)) (pa_cons (pe_ix ix_list (pv 1) pe_int (fun _ _ => rfl)) (pa_cons (pe_ix ix_list (pv 1) pe_int (fun _ _ => rfl)) pa_nil)))))))) pss_nil)
      (pss_cons (ps_if (pt_cmpR op_eq (pe_ix ix_list (pv 1) pe_int (fun _ _ => rfl)) (pe_glob rfl g6 (relI 1 t6)) (nomark _)) (pss_one (ps_ret (pe_meth (pv 0) T.cH mF GF hr5 bF .nil pass0
          (pa_cons (pe_ix ix_list (pv 1) pe_int (fun _ _ => rfl)) (pa_cons (pe_ix ix_list (pv 1) pe_int (fun _ _ => rfl)) (pa_cons (pe_ix ix_list (pv 1) pe_int (fun _ _ => rfl)) (pa_cons (pe_slice sl_list (pv 1) (po_some (pe_glob rfl g8 (relI 5 t8))) po_none) pa_nil))))))) pss_nil)
      (pss_one (ps_ret (pe_meth0 (pv 0) T.cH mW GW hr1 bW .nil pass0)))), ?_⟩
    obtain ⟨dx, ow, oh, om, osl, ofin, obef, opics, omx, omy, oleft, otop, ha⟩ := hs.any
    cases hcl with
    | beg w h r m sl =>
      obtain ⟨w0, h0, r0, m0, s0⟩ := Hs.asked_begin hask
      refine ⟨_, rfl, c, _, 0, .int 0, rfl, rfl, SqL.of hc, atI_nat (j := 0) rfl, rfl, _, rfl, iteT ?_⟩
      refine ⟨_, rfl, a, dx, _, rfl, ha, hF_m5, ?_⟩
      refine ⟨_, rfl, c, _, 1, .int w, rfl, rfl, SqL.of hc, atI_nat (j := 1) rfl, _, rfl, c, _, 2, .int h, rfl, rfl, SqL.of hc, atI_nat (j := 2) rfl, _, rfl, c, _, 3, .int r, rfl, rfl, SqL.of hc, atI_nat (j := 3) rfl,
        _, rfl, c, _, 4, .int m, rfl, rfl, SqL.of hc, atI_nat (j := 4) rfl, _, rfl, c, _, 5, .int sl, rfl, rfl, SqL.of hc, atI_nat (j := 5) rfl, ?_⟩
      exact ⟨gg, a, st, w, h, r, m, sl, rfl, hs, w0, h0, r0, m0, s0, q⟩
    | frm w h m n b =>
      obtain ⟨z, rfl⟩ := Hs.some_frame hchk
      have g := hg z rfl
      obtain ⟨⟨w0, h0, m0⟩, okp⟩ := Hs.asked_frame hask
      refine ⟨_, rfl, c, _, 0, .int 1, rfl, rfl, SqL.of hc, atI_nat (j := 0) rfl, rfl, _, rfl, iteF ?_⟩
      refine ⟨_, rfl, c, _, 0, .int 1, rfl, rfl, SqL.of hc, atI_nat (j := 0) rfl, rfl, _, rfl, iteT ?_⟩
      refine ⟨_, rfl, a, dx, _, rfl, ha, hF_m6, ?_⟩
      refine ⟨_, rfl, c, _, 1, .int w, rfl, rfl, SqL.of hc, atI_nat (j := 1) rfl, _, rfl, c, _, 2, .int h, rfl, rfl, SqL.of hc, atI_nat (j := 2) rfl, _, rfl, c, _, 3, .int m, rfl, rfl, SqL.of hc, atI_nat (j := 3) rfl, ?_⟩
      refine ⟨_, rfl, _, rfl, c, _, rfl, SqL.of hc, fun s1 n1 => ?_⟩
      have e5 : cutV ((1 :: w :: h :: m :: n :: b).map V.int) (some 5) none = b.map V.int := cut5 _ (by simp)
      have sm := same_upd (o := .lst (cutV ((1 :: w :: h :: m :: n :: b).map V.int) (some 5) none)) n1
      have oks := (Hs.okSet_iff.mp g.set).1
      refine ⟨gg, a, s1, z, w, h, m, b, rfl, (ne_of_none hog n1).symm, HoldAt.same sm hs, g, upd_same.trans (congrArg (fun q => some (HO.lst q)) e5), w0, h0, m0, fun ew eh => ?_, Done.more q sm⟩
      have p := okp (by omega) (by omega) (by omega) (by omega)
      rw [ew, eh] at p
      exact p
    | whr =>
      obtain ⟨z, rfl⟩ := Hs.some_where hchk
      refine ⟨_, rfl, c, _, 0, .int 2, rfl, rfl, SqL.of hc, atI_nat (j := 0) rfl, rfl, _, rfl, iteF ?_⟩
      refine ⟨_, rfl, c, _, 0, .int 2, rfl, rfl, SqL.of hc, atI_nat (j := 0) rfl, rfl, _, rfl, iteF ?_⟩
      exact ⟨_, rfl, a, dx, _, rfl, ha, hF_m7, gg, a, z, rfl, hs, q⟩
/-! ### answers -/
theorem scAns : FnScope ["calls", "hold", "given", "start", "behind", "answer"] ["calls"] (defScope sAns) := ⟨rfl, rfl, rfl, by decide +kernel, rfl, by decide +kernel, by decide +kernel⟩
def measure (l : List Int) (σ : L2.St) (_ : Hp) : Nat := match σ[3]? with
  | some (some (V.int i)) => l.length - i.toNat
  | _ => 0
theorem ok_ans {f fI fL fC : Addr} {fd fdI fdL fdC : FuncData} (F : Fun K "answers" "answers" sAns f fd) (T : Txt K mg CF CH)
    (MI : Mk K CH fI) (GI : FnOk P w K mg base CX0 2 fI fdI ["self"] (spHInit CH)) (bI : Binds K fdI ["self"] [])
    (GL : FnOk P w K mg base CX0 1 fL fdL ["calls", "start"] (spLen K)) (bL : Binds K fdL ["calls", "start"] []) (gL : mg "call_length" = some (.ref fL)) (kL : PySem.W.keepIn K (.ref fL) = true)
    (GC : FnOk P w K mg base CX0 8 fC fdC ["hold", "call"] (spCall CF CH)) (bC : Binds K fdC ["hold", "call"] []) (gC : mg "call_answer" = some (.ref fC)) (kC : PySem.W.keepIn K (.ref fC) = true) :
    FnOk P w K mg base CX0 9 f fd ["calls"] (spAns K) := by
  refine F.ok scAns (fun vs H Q E h => ?_) (fun cdv A outer s H vs Q E hr h => ?_)
  · obtain ⟨c, l, rfl, _⟩ := h
    rfl
  · obtain ⟨c, l, rfl, hS, hl, hask, q⟩ := h
    have hr1 : Room 1 _ := hr.mono (by decide)
    have hr3 : Room 3 _ := hr.mono (by decide)
    refine ⟨_, pss_cons (ps_set (i := 1) scAns.nd rfl (.inl rfl) (pe_make0 MI GI hr3 (by rfl) T.gH bI .nil pass0))
      (pss_cons (ps_set (i := 2) scAns.nd rfl (.inl rfl) (pe_lst pa_nil))
      (pss_cons (ps_set (i := 3) scAns.nd rfl (.inl rfl) pe_int)
      (pss_cons (ps_while PassesOwn.never (pt_cmpR op_lt (pv 3) (pe_callB call_len_seq (by rfl) T.nLen PySem.boot_len (pa_cons (pv 0) pa_nil)) (nomark _))
        (pss_cons (ps_set (i := 4) scAns.nd rfl (.inl rfl) (pe_op op_add (pv 3) (pe_call GL hr1 (by rfl) gL kL bL .nil pass0 (pa_cons (pv 0) (pa_cons (pv 3) pa_nil)))))
        (pss_cons (ps_set (i := 5) scAns.nd rfl (.inl rfl) (pe_call GC hr (by rfl) gC kC bC .nil pass0 (pa_cons (pv 1) (pa_cons (pe_slice sl_list (pv 0) (po_some (pv 3)) (po_some (pv 4))) pa_nil))))
        (pss_cons (ps_expr (pe_bm PySem.F.plainAttrs_list PySem.F.slot_list_append PySem.F.type_list_append mt_append (pv 2) (pa_cons (pe_callB call_len_seq (by rfl) T.nLen PySem.boot_len (pa_cons (pv 5) pa_nil)) pa_nil)))
        (pss_cons (ps_expr (pe_bm PySem.F.plainAttrs_list PySem.F.slot_list_extend PySem.F.type_list_extend mt_extend (pv 2) (pa_cons (pv 5) pa_nil)))
        (pss_one (ps_set (i := 3) scAns.nd rfl (.inl rfl) (pv 4))))))))
      (pss_one (ps_ret (pv 2)))))), ?_⟩
    intro x dx nx ndx nex
    refine ⟨x, dx, rfl, upd_same, fun H1 e1 k1 => ⟨rfl, ?_⟩⟩
    have s1 : Same H H1 := Same.made nx ndx k1
    refine ⟨Nat.zero_le _, fun g ng => ?_⟩
    have s2 := same_upd (o := .lst []) ng
    have zl : 10000000 < sizeLine := by decide
    refine while_by (fun σ H2 => ∃ (i : Nat) (st : S) (given : List Int) (v4 v5 : Option V), σ = [some (.ref c), some (.ref x), some (.ref g), some (.int i), v4, v5] ∧ i ≤ l.length ∧ Hs.Todo l st (l.drop i) given ∧ HoldAt CF CH g H2 x st ∧
      H2 g = some (.lst (given.map V.int)) ∧ Same H H2) (measure l) ?_ ?_ ?_
    · exact ⟨0, none, [], none, none, rfl, Nat.zero_le _, Hs.Todo.start hask, HoldAt.same s2 (s := none) ⟨dx, e1⟩, upd_same, s1.trans s2⟩
    · rintro σ H2 ⟨i, st, given, v4, v5, rfl, hi, todo, hold, hg, sm⟩
      have hS2 : SqL K H2 c (l.map V.int) := sm.seq hS
      refine ⟨_, rfl, _, rfl, c, _, rfl, .inl hS2, _, _, rfl, rfl, _, rfl, ?_⟩
      rw [List.length_map]
      refine ite2 (fun e => ?_) (fun e => ?_)
      · have hlt : i < l.length := by
          have := of_decide_eq_true e
          omega
        obtain ⟨pp, rr, hd⟩ : ∃ pp rr, l.drop i = pp :: rr := by
          cases e2 : l.drop i with
          | nil =>
            have := congrArg List.length e2
            rw [List.length_drop] at this
            simp only [List.length_nil] at this
            omega
          | cons pp rr => exact ⟨pp, rr, rfl⟩
        rw [hd] at todo
        obtain ⟨cl, t, fr, _, hask1, hchk, more⟩ := todo.step
        -- behind = start + call_length(calls, start)
        refine ⟨_, rfl, _, rfl, _, rfl, c, i, l, t, cl, rfl, hS2, hl, (by rw [hd]; exact fr), fun n hn n0 ht hcl => ?_⟩
        refine ⟨_, _, rfl, rfl, ?_⟩
        -- answer = call_answer(hold, calls[start:behind])
        refine ⟨_, rfl, _, rfl, _, rfl, _, rfl, _, rfl, _, rfl, c, _, rfl, hS2, fun p1 np1 => ?_⟩
        have ec : cutV (l.map V.int) (some (i : Int)) (some ((i : Int) + (n : Int))) = ((l.drop i).take n).map V.int := cut_seg l hn rfl (Int.natCast_add _ _).symm
        have sm1 := same_upd (o := .lst (cutV (l.map V.int) (some (i : Int)) (some ((i : Int) + (n : Int))))) np1
        refine ⟨g, x, p1, st, (l.drop i).take n, cl, rfl, ⟨_, sm1 _ _ hg⟩, hold.same sm1, upd_same.trans (congrArg (fun q => some (HO.lst q)) ec), hcl, todo.good, hask1, hchk, fun H3 p2 hold3 k3 np2 e3 => ?_⟩
        obtain ⟨dx', ow, oh, om, osl, ofin, obef, opics, omx, omy, oleft, otop, ha⟩ := hold.any
        have hx1 := sm1 _ _ ha
        have hg1 := sm1 _ _ hg
        have hg3 : H3 g = some (.lst (given.map V.int)) := k3.at hx1 hg1 (by intro z; cases z)
        have ngp : g ≠ p2 := ne_of_none hg1 np2
        have todo2 := more (Hs.step_good fr hchk todo.good)
        have few := todo2.ne
        rw [List.length_append, List.length_cons] at few
        -- given.append(len(answer))
        refine ⟨.ref g, rfl, .inl ⟨rfl, _, SqL.of hg3⟩, _, rfl, p2, _, rfl, .inl (SqL.of e3), g, _, _, rfl, rfl, hg3, (by rw [List.length_map]; omega), ?_⟩
        -- given.extend(answer)
        refine ⟨.ref g, rfl, .inl ⟨rfl, _, SqL.of upd_same⟩, _, rfl, g, p2, _, _, rfl, rfl, upd_same, (upd_ne ngp.symm).trans e3, (by rw [List.length_append, List.length_map, List.length_map]; show _ + 1 + _ ≤ _; omega), ?_⟩
        refine ⟨_, rfl, ⟨i + n, (Kh289Neutral.step st cl).1, given ++ ((Kh289Neutral.step st cl).2.length : Int) :: (Kh289Neutral.step st cl).2, _, _, rfl, hn, ?_, ?_, ?_, fun b o e => ?_⟩, ?_⟩
        · rw [← ht]
          exact todo2
        · have kg : Kp H3 (upd (upd H3 g (.lst (given.map V.int ++ [V.int (((Kh289Neutral.step st cl).2.map V.int).length : Nat)]))) g (.lst (given.map V.int ++ [V.int (((Kh289Neutral.step st cl).2.map V.int).length : Nat)] ++ (Kh289Neutral.step st cl).2.map V.int))) g := fun b o e nb => by
            rw [upd_ne nb, upd_ne nb]
            exact e
          exact hold3.keepG kg hg3
        · rw [upd_same, List.map_append, List.map_cons, List.length_map, List.append_assoc]
          rfl
        · have o1 := s1 _ _ e
          have nb : b ≠ g := ne_of_none o1 ng
          have nbx : b ≠ x := ne_of_none e nx
          rw [upd_ne nb, upd_ne nb]
          exact k3 _ _ (sm1 _ _ (sm _ _ e)) nbx
        · show l.length - ((i : Int) + (n : Int)).toNat < l.length - (i : Int).toNat
          omega
      · have hge : i = l.length := by
          have : ¬ (i : Int) < (l.length : Int) := fun z => e (decide_eq_true z)
          omega
        have ed : l.drop i = [] := by
          rw [hge]
          exact List.drop_length
        rw [ed] at todo
        have eg := todo.done
        refine ⟨.ref g, rfl, q H2 g ?_⟩
        rw [← eg]
        exact hg
    · rintro σ H2 Q1 Q2 hQ ⟨a1, a2, a3, a4, a5, a6, a7, a8, a9, a10, a11, a12, a13, a14, a15⟩
      exact ⟨a1, a2, a3, a4, a5, a6, a7, a8, a9, a10, a11, a12, a13, a14, hQ _ _ a15⟩
end
end HsP

/-! ## HsEnd -/
set_option maxRecDepth 100000
set_option maxHeartbeats 4000000
/-! the end: what the top has written -/
namespace HsP
open PySem PySem.Spec PyProof.Rows L2
theorem all_mk {P : Program} {w : World} {K : PySem.W.Frag} {h : Heap} {mg : Str → Option Value} {fa CF CH : Addr}
    {f1 f2 f3 f4 f5 f6 f7 f8 f9 f10 f11 f12 f13 f14 f15 f16 f17 f18 f19 f20 f21 : Addr} {t1 t2 t3 t4 t5 t6 t7 t8 t9 : Tok}
    (X : K.In h) (G : h.Ns mainGlobals mg) (hfa : mg "answers" = some (.ref fa))
    {od1 an1 : Option Addr} {sl1 : Array (Option Value)} {oc1 kV1 dc1 pm1 cd1 ct1 : Value}
    {od2 an2 : Option Addr} {sl2 : Array (Option Value)} {oc2 kV2 dc2 pm2 cd2 ct2 : Value}
    {od3 an3 : Option Addr} {sl3 : Array (Option Value)} {oc3 kV3 dc3 pm3 cd3 ct3 : Value}
    {od4 an4 : Option Addr} {sl4 : Array (Option Value)} {oc4 kV4 dc4 pm4 cd4 ct4 : Value}
    {od5 an5 : Option Addr} {sl5 : Array (Option Value)} {oc5 kV5 dc5 pm5 cd5 ct5 : Value}
    {od6 an6 : Option Addr} {sl6 : Array (Option Value)} {oc6 kV6 dc6 pm6 cd6 ct6 : Value}
    {od7 an7 : Option Addr} {sl7 : Array (Option Value)} {oc7 kV7 dc7 pm7 cd7 ct7 : Value}
    {od8 an8 : Option Addr} {sl8 : Array (Option Value)} {oc8 kV8 dc8 pm8 cd8 ct8 : Value}
    {od9 an9 : Option Addr} {sl9 : Array (Option Value)} {oc9 kV9 dc9 pm9 cd9 ct9 : Value}
    {od10 an10 : Option Addr} {sl10 : Array (Option Value)} {oc10 kV10 dc10 pm10 cd10 ct10 : Value}
    {od11 an11 : Option Addr} {sl11 : Array (Option Value)} {oc11 kV11 dc11 pm11 cd11 ct11 : Value}
    {od12 an12 : Option Addr} {sl12 : Array (Option Value)} {oc12 kV12 dc12 pm12 cd12 ct12 : Value}
    {od13 an13 : Option Addr} {sl13 : Array (Option Value)} {oc13 kV13 dc13 pm13 cd13 ct13 : Value}
    {od14 an14 : Option Addr} {sl14 : Array (Option Value)} {oc14 kV14 dc14 pm14 cd14 ct14 : Value}
    {od15 an15 : Option Addr} {sl15 : Array (Option Value)} {oc15 kV15 dc15 pm15 cd15 ct15 : Value}
    {od16 an16 : Option Addr} {sl16 : Array (Option Value)} {oc16 kV16 dc16 pm16 cd16 ct16 : Value}
    {od17 an17 : Option Addr} {sl17 : Array (Option Value)} {oc17 kV17 dc17 pm17 cd17 ct17 : Value}
    {od18 an18 : Option Addr} {sl18 : Array (Option Value)} {oc18 kV18 dc18 pm18 cd18 ct18 : Value}
    {od19 an19 : Option Addr} {sl19 : Array (Option Value)} {oc19 kV19 dc19 pm19 cd19 ct19 : Value}
    {od20 an20 : Option Addr} {sl20 : Array (Option Value)} {oc20 kV20 dc20 pm20 cd20 ct20 : Value}
    {od21 an21 : Option Addr} {sl21 : Array (Option Value)} {oc21 kV21 dc21 pm21 cd21 ct21 : Value}
    (xF : PySem.W.nsIn K mainGlobals "Finder" = some (some (.ref CF)))
    (xH : PySem.W.nsIn K mainGlobals "Hold" = some (some (.ref CH)))
    (a1 : PySem.W.nsIn K mainGlobals "sizes_are_right" = some (some (.ref f1)))
    (l1 : K.lookup f1 = some ⟨oc1, od1, .func (PySem.W.fnOf "sizes_are_right" "sizes_are_right" (defArgs sSizes) (defBody sSizes) (defScope sSizes) .none kV1 dc1 pm1 an1 cd1 ct1), sl1⟩) (c1 : PySem.W.codeIn K cd1 "sizes_are_right" = true) (k1 : PySem.W.keepIn K (.ref f1) = true)
    (a2 : PySem.W.nsIn K mainGlobals "shift_rank" = some (some (.ref f2)))
    (l2 : K.lookup f2 = some ⟨oc2, od2, .func (PySem.W.fnOf "shift_rank" "shift_rank" (defArgs sRank) (defBody sRank) (defScope sRank) .none kV2 dc2 pm2 an2 cd2 ct2), sl2⟩) (c2 : PySem.W.codeIn K cd2 "shift_rank" = true) (k2 : PySem.W.keepIn K (.ref f2) = true)
    (a3 : PySem.W.nsIn K mainGlobals "shifts_by_rank" = some (some (.ref f3)))
    (l3 : K.lookup f3 = some ⟨oc3, od3, .func (PySem.W.fnOf "shifts_by_rank" "shifts_by_rank" (defArgs sShifts) (defBody sShifts) (defScope sShifts) .none kV3 dc3 pm3 an3 cd3 ct3), sl3⟩) (c3 : PySem.W.codeIn K cd3 "shifts_by_rank" = true) (k3 : PySem.W.keepIn K (.ref f3) = true)
    (a4 : PySem.W.nsIn K mainGlobals "row_difference" = some (some (.ref f4)))
    (l4 : K.lookup f4 = some ⟨oc4, od4, .func (PySem.W.fnOf "row_difference" "row_difference" (defArgs sRow) (defBody sRow) (defScope sRow) .none kV4 dc4 pm4 an4 cd4 ct4), sl4⟩) (c4 : PySem.W.codeIn K cd4 "row_difference" = true) (k4 : PySem.W.keepIn K (.ref f4) = true)
    (a5 : PySem.W.findIn K (.ref CF) "__init__" = some (some (.ref f5))) (i5 : PySem.W.isFn K (.ref f5) = true)
    (l5 : K.lookup f5 = some ⟨oc5, od5, .func (PySem.W.fnOf "__init__" "Finder.__init__" (defArgs sFInit) (defBody sFInit) (defScope sFInit) .none kV5 dc5 pm5 an5 cd5 ct5), sl5⟩) (c5 : PySem.W.codeIn K cd5 "Finder.__init__" = true) (k5 : PySem.W.keepIn K (.ref f5) = true)
    (a6 : PySem.W.findIn K (.ref CF) "shift_cost" = some (some (.ref f6))) (i6 : PySem.W.isFn K (.ref f6) = true)
    (l6 : K.lookup f6 = some ⟨oc6, od6, .func (PySem.W.fnOf "shift_cost" "Finder.shift_cost" (defArgs sCost) (defBody sCost) (defScope sCost) .none kV6 dc6 pm6 an6 cd6 ct6), sl6⟩) (c6 : PySem.W.codeIn K cd6 "Finder.shift_cost" = true) (k6 : PySem.W.keepIn K (.ref f6) = true)
    (a7 : PySem.W.findIn K (.ref CF) "found_shift" = some (some (.ref f7))) (i7 : PySem.W.isFn K (.ref f7) = true)
    (l7 : K.lookup f7 = some ⟨oc7, od7, .func (PySem.W.fnOf "found_shift" "Finder.found_shift" (defArgs sFound) (defBody sFound) (defScope sFound) .none kV7 dc7 pm7 an7 cd7 ct7), sl7⟩) (c7 : PySem.W.codeIn K cd7 "Finder.found_shift" = true) (k7 : PySem.W.keepIn K (.ref f7) = true)
    (a8 : PySem.W.nsIn K mainGlobals "refusal" = some (some (.ref f8)))
    (l8 : K.lookup f8 = some ⟨oc8, od8, .func (PySem.W.fnOf "refusal" "refusal" (defArgs sRefusal) (defBody sRefusal) (defScope sRefusal) .none kV8 dc8 pm8 an8 cd8 ct8), sl8⟩) (c8 : PySem.W.codeIn K cd8 "refusal" = true) (k8 : PySem.W.keepIn K (.ref f8) = true)
    (a9 : PySem.W.nsIn K mainGlobals "one_nearer" = some (some (.ref f9)))
    (l9 : K.lookup f9 = some ⟨oc9, od9, .func (PySem.W.fnOf "one_nearer" "one_nearer" (defArgs sOne) (defBody sOne) (defScope sOne) .none kV9 dc9 pm9 an9 cd9 ct9), sl9⟩) (c9 : PySem.W.codeIn K cd9 "one_nearer" = true) (k9 : PySem.W.keepIn K (.ref f9) = true)
    (a10 : PySem.W.nsIn K mainGlobals "kept_within" = some (some (.ref f10)))
    (l10 : K.lookup f10 = some ⟨oc10, od10, .func (PySem.W.fnOf "kept_within" "kept_within" (defArgs sKeep) (defBody sKeep) (defScope sKeep) .none kV10 dc10 pm10 an10 cd10 ct10), sl10⟩) (c10 : PySem.W.codeIn K cd10 "kept_within" = true) (k10 : PySem.W.keepIn K (.ref f10) = true)
    (a11 : PySem.W.findIn K (.ref CH) "__init__" = some (some (.ref f11))) (i11 : PySem.W.isFn K (.ref f11) = true)
    (l11 : K.lookup f11 = some ⟨oc11, od11, .func (PySem.W.fnOf "__init__" "Hold.__init__" (defArgs sHInit) (defBody sHInit) (defScope sHInit) .none kV11 dc11 pm11 an11 cd11 ct11), sl11⟩) (c11 : PySem.W.codeIn K cd11 "Hold.__init__" = true) (k11 : PySem.W.keepIn K (.ref f11) = true)
    (a12 : PySem.W.findIn K (.ref CH) "forget_pictures" = some (some (.ref f12))) (i12 : PySem.W.isFn K (.ref f12) = true)
    (l12 : K.lookup f12 = some ⟨oc12, od12, .func (PySem.W.fnOf "forget_pictures" "Hold.forget_pictures" (defArgs sForget) (defBody sForget) (defScope sForget) .none kV12 dc12 pm12 an12 cd12 ct12), sl12⟩) (c12 : PySem.W.codeIn K cd12 "Hold.forget_pictures" = true) (k12 : PySem.W.keepIn K (.ref f12) = true)
    (a13 : PySem.W.findIn K (.ref CH) "begin" = some (some (.ref f13))) (i13 : PySem.W.isFn K (.ref f13) = true)
    (l13 : K.lookup f13 = some ⟨oc13, od13, .func (PySem.W.fnOf "begin" "Hold.begin" (defArgs sBegin) (defBody sBegin) (defScope sBegin) .none kV13 dc13 pm13 an13 cd13 ct13), sl13⟩) (c13 : PySem.W.codeIn K cd13 "Hold.begin" = true) (k13 : PySem.W.keepIn K (.ref f13) = true)
    (a14 : PySem.W.findIn K (.ref CH) "frame" = some (some (.ref f14))) (i14 : PySem.W.isFn K (.ref f14) = true)
    (l14 : K.lookup f14 = some ⟨oc14, od14, .func (PySem.W.fnOf "frame" "Hold.frame" (defArgs sFrame) (defBody sFrame) (defScope sFrame) .none kV14 dc14 pm14 an14 cd14 ct14), sl14⟩) (c14 : PySem.W.codeIn K cd14 "Hold.frame" = true) (k14 : PySem.W.keepIn K (.ref f14) = true)
    (a15 : PySem.W.findIn K (.ref CH) "where" = some (some (.ref f15))) (i15 : PySem.W.isFn K (.ref f15) = true)
    (l15 : K.lookup f15 = some ⟨oc15, od15, .func (PySem.W.fnOf "where" "Hold.where" (defArgs sWhere) (defBody sWhere) (defScope sWhere) .none kV15 dc15 pm15 an15 cd15 ct15), sl15⟩) (c15 : PySem.W.codeIn K cd15 "Hold.where" = true) (k15 : PySem.W.keepIn K (.ref f15) = true)
    (a16 : PySem.W.findIn K (.ref CH) "follow" = some (some (.ref f16))) (i16 : PySem.W.isFn K (.ref f16) = true)
    (l16 : K.lookup f16 = some ⟨oc16, od16, .func (PySem.W.fnOf "follow" "Hold.follow" (defArgs sFollow) (defBody sFollow) (defScope sFollow) .none kV16 dc16 pm16 an16 cd16 ct16), sl16⟩) (c16 : PySem.W.codeIn K cd16 "Hold.follow" = true) (k16 : PySem.W.keepIn K (.ref f16) = true)
    (a17 : PySem.W.findIn K (.ref CH) "gives_way" = some (some (.ref f17))) (i17 : PySem.W.isFn K (.ref f17) = true)
    (l17 : K.lookup f17 = some ⟨oc17, od17, .func (PySem.W.fnOf "gives_way" "Hold.gives_way" (defArgs sGives) (defBody sGives) (defScope sGives) .none kV17 dc17 pm17 an17 cd17 ct17), sl17⟩) (c17 : PySem.W.codeIn K cd17 "Hold.gives_way" = true) (k17 : PySem.W.keepIn K (.ref f17) = true)
    (a18 : PySem.W.findIn K (.ref CH) "shown" = some (some (.ref f18))) (i18 : PySem.W.isFn K (.ref f18) = true)
    (l18 : K.lookup f18 = some ⟨oc18, od18, .func (PySem.W.fnOf "shown" "Hold.shown" (defArgs sShown) (defBody sShown) (defScope sShown) .none kV18 dc18 pm18 an18 cd18 ct18), sl18⟩) (c18 : PySem.W.codeIn K cd18 "Hold.shown" = true) (k18 : PySem.W.keepIn K (.ref f18) = true)
    (a19 : PySem.W.nsIn K mainGlobals "call_length" = some (some (.ref f19)))
    (l19 : K.lookup f19 = some ⟨oc19, od19, .func (PySem.W.fnOf "call_length" "call_length" (defArgs sLen) (defBody sLen) (defScope sLen) .none kV19 dc19 pm19 an19 cd19 ct19), sl19⟩) (c19 : PySem.W.codeIn K cd19 "call_length" = true) (k19 : PySem.W.keepIn K (.ref f19) = true)
    (a20 : PySem.W.nsIn K mainGlobals "call_answer" = some (some (.ref f20)))
    (l20 : K.lookup f20 = some ⟨oc20, od20, .func (PySem.W.fnOf "call_answer" "call_answer" (defArgs sCall) (defBody sCall) (defScope sCall) .none kV20 dc20 pm20 an20 cd20 ct20), sl20⟩) (c20 : PySem.W.codeIn K cd20 "call_answer" = true) (k20 : PySem.W.keepIn K (.ref f20) = true)
    (a21 : PySem.W.nsIn K mainGlobals "answers" = some (some (.ref f21)))
    (l21 : K.lookup f21 = some ⟨oc21, od21, .func (PySem.W.fnOf "answers" "answers" (defArgs sAns) (defBody sAns) (defScope sAns) .none kV21 dc21 pm21 an21 cd21 ct21), sl21⟩) (c21 : PySem.W.codeIn K cd21 "answers" = true) (k21 : PySem.W.keepIn K (.ref f21) = true)
    (pgF : PySem.W.plainGet K CF Str.empty = true) (hdF : PySem.W.hasDictIn K CF = true) (poF : PySem.W.plainOver K CF = true) (saF : PySem.W.findIn K (.ref CF) "__setattr__" = some (some (.builtin "object.__setattr__"))) (mkF : PySem.W.makesIn K CF = true) (kcF : PySem.W.keepIn K (.ref CF) = true)
    (nF0 : PySem.W.findIn K (.ref CF) "width" = some none)
    (nF1 : PySem.W.findIn K (.ref CF) "height" = some none)
    (nF2 : PySem.W.findIn K (.ref CF) "reach" = some none)
    (nF3 : PySem.W.findIn K (.ref CF) "shifts" = some none)
    (pgH : PySem.W.plainGet K CH Str.empty = true) (hdH : PySem.W.hasDictIn K CH = true) (poH : PySem.W.plainOver K CH = true) (saH : PySem.W.findIn K (.ref CH) "__setattr__" = some (some (.builtin "object.__setattr__"))) (mkH : PySem.W.makesIn K CH = true) (kcH : PySem.W.keepIn K (.ref CH) = true)
    (nH0 : PySem.W.findIn K (.ref CH) "width" = some none)
    (nH1 : PySem.W.findIn K (.ref CH) "height" = some none)
    (nH2 : PySem.W.findIn K (.ref CH) "margin" = some none)
    (nH3 : PySem.W.findIn K (.ref CH) "slow" = some none)
    (nH4 : PySem.W.findIn K (.ref CH) "finder" = some none)
    (nH5 : PySem.W.findIn K (.ref CH) "before" = some none)
    (nH6 : PySem.W.findIn K (.ref CH) "pictures" = some none)
    (nH7 : PySem.W.findIn K (.ref CH) "moved_x" = some none)
    (nH8 : PySem.W.findIn K (.ref CH) "moved_y" = some none)
    (nH9 : PySem.W.findIn K (.ref CH) "left" = some none)
    (nH10 : PySem.W.findIn K (.ref CH) "top" = some none)
    (g1 : PySem.W.nsIn K mainGlobals "MOST_REACH" = some (some (.int 8 t1)))
    (g2 : PySem.W.nsIn K mainGlobals "MOST_SIZE" = some (some (.int 256 t2)))
    (g3 : PySem.W.nsIn K mainGlobals "LIGHTEST" = some (some (.int 255 t3)))
    (g4 : PySem.W.nsIn K mainGlobals "MOST_SLOW" = some (some (.int 65535 t4)))
    (g5 : PySem.W.nsIn K mainGlobals "BEGIN" = some (some (.int 0 t5)))
    (g6 : PySem.W.nsIn K mainGlobals "FRAME" = some (some (.int 1 t6)))
    (g7 : PySem.W.nsIn K mainGlobals "BEGIN_LENGTH" = some (some (.int 6 t7)))
    (g8 : PySem.W.nsIn K mainGlobals "FRAME_HEAD" = some (some (.int 5 t8)))
    (g9 : PySem.W.nsIn K mainGlobals "WHERE_LENGTH" = some (some (.int 1 t9)))
    (z1 : PySem.W.nsIn K mainGlobals "range" = some none)
    (z2 : PySem.W.nsIn K mainGlobals "sorted" = some none)
    (z3 : PySem.W.nsIn K mainGlobals "sum" = some none)
    (z4 : PySem.W.nsIn K mainGlobals "abs" = some none)
    (z5 : PySem.W.nsIn K mainGlobals "zip" = some none)
    (z6 : PySem.W.nsIn K mainGlobals "len" = some none)
    (z7 : PySem.W.nsIn K mainGlobals "max" = some none)
    (z8 : PySem.W.nsIn K mainGlobals "min" = some none)
    : ∃ fd : FuncData, (∀ (s : Shared) (us : List Value), us.length = (["calls"] : List Str).length → BindsTo s fd ⟨us, []⟩ ((["calls"] : List Str).zip us)) ∧ ∀ base : Heap, K.In base → base.Ns mainGlobals mg → FnOk P w K mg base CX0 9 fa fd ["calls"] (spAns K) := by
  have e := hfa.symm.trans (PySem.W.mg_of X G a21)
  cases e
  have T : Txt K mg CF CH := ⟨⟨pgF, hdF, poF, saF⟩, ⟨pgH, hdH, poH, saH⟩, nF0, nF1, nF2, nF3, nH0, nH1, nH2, nH3, nH4, nH5, nH6, nH7, nH8, nH9, nH10, PySem.W.mg_of X G xF, PySem.W.mg_of X G xH, ⟨_, PySem.W.mg_of X G g1⟩, ⟨_, PySem.W.mg_of X G g2⟩, ⟨_, PySem.W.mg_of X G g3⟩, ⟨_, PySem.W.mg_of X G g4⟩, ⟨_, PySem.W.mg_of X G g5⟩, ⟨_, PySem.W.mg_of X G g6⟩, ⟨_, PySem.W.mg_of X G g7⟩, ⟨_, PySem.W.mg_of X G g8⟩, ⟨_, PySem.W.mg_of X G g9⟩, PySem.W.mg_none_of X G z1, PySem.W.mg_none_of X G z2, PySem.W.mg_none_of X G z3, PySem.W.mg_none_of X G z4, PySem.W.mg_none_of X G z5, PySem.W.mg_none_of X G z6, PySem.W.mg_none_of X G z7, PySem.W.mg_none_of X G z8⟩
  have F1 := fun_mk (st := sSizes) l1 c1 k1
  have F2 := fun_mk (st := sRank) l2 c2 k2
  have F3 := fun_mk (st := sShifts) l3 c3 k3
  have F4 := fun_mk (st := sRow) l4 c4 k4
  have F5 := fun_mk (st := sFInit) l5 c5 k5
  have F6 := fun_mk (st := sCost) l6 c6 k6
  have F7 := fun_mk (st := sFound) l7 c7 k7
  have F8 := fun_mk (st := sRefusal) l8 c8 k8
  have F9 := fun_mk (st := sOne) l9 c9 k9
  have F10 := fun_mk (st := sKeep) l10 c10 k10
  have F11 := fun_mk (st := sHInit) l11 c11 k11
  have F12 := fun_mk (st := sForget) l12 c12 k12
  have F13 := fun_mk (st := sBegin) l13 c13 k13
  have F14 := fun_mk (st := sFrame) l14 c14 k14
  have F15 := fun_mk (st := sWhere) l15 c15 k15
  have F16 := fun_mk (st := sFollow) l16 c16 k16
  have F17 := fun_mk (st := sGives) l17 c17 k17
  have F18 := fun_mk (st := sShown) l18 c18 k18
  have F19 := fun_mk (st := sLen) l19 c19 k19
  have F20 := fun_mk (st := sCall) l20 c20 k20
  have F21 := fun_mk (st := sAns) l21 c21 k21
  have b1 := F1.binds (ps := ["width", "height", "reach"]) fun _ _ _ _ _ _ us hl => match us, hl with | [_, _, _], _ => rfl
  have b2 := F2.binds (ps := ["shift"]) fun _ _ _ _ _ _ us hl => match us, hl with | [_], _ => rfl
  have b3 := F3.binds (ps := ["reach"]) fun _ _ _ _ _ _ us hl => match us, hl with | [_], _ => rfl
  have b4 := F4.binds (ps := ["greys", "others"]) fun _ _ _ _ _ _ us hl => match us, hl with | [_, _], _ => rfl
  have b5 := F5.binds (ps := ["self", "width", "height", "reach"]) fun _ _ _ _ _ _ us hl => match us, hl with | [_, _, _, _], _ => rfl
  have b6 := F6.binds (ps := ["self", "before", "after", "shift", "enough"]) fun _ _ _ _ _ _ us hl => match us, hl with | [_, _, _, _, _], _ => rfl
  have b7 := F7.binds (ps := ["self", "before", "after"]) fun _ _ _ _ _ _ us hl => match us, hl with | [_, _, _], _ => rfl
  have b8 := F8.binds (ps := []) fun _ _ _ _ _ _ us hl => match us, hl with | [], _ => rfl
  have b9 := F9.binds (ps := ["number", "aim"]) fun _ _ _ _ _ _ us hl => match us, hl with | [_, _], _ => rfl
  have b10 := F10.binds (ps := ["number", "most"]) fun _ _ _ _ _ _ us hl => match us, hl with | [_, _], _ => rfl
  have b11 := F11.binds (ps := ["self"]) fun _ _ _ _ _ _ us hl => match us, hl with | [_], _ => rfl
  have b12 := F12.binds (ps := ["self"]) fun _ _ _ _ _ _ us hl => match us, hl with | [_], _ => rfl
  have b13 := F13.binds (ps := ["self", "width", "height", "reach", "margin", "slow"]) fun _ _ _ _ _ _ us hl => match us, hl with | [_, _, _, _, _, _], _ => rfl
  have b14 := F14.binds (ps := ["self", "width", "height", "margin", "picture"]) fun _ _ _ _ _ _ us hl => match us, hl with | [_, _, _, _, _], _ => rfl
  have b15 := F15.binds (ps := ["self"]) fun _ _ _ _ _ _ us hl => match us, hl with | [_], _ => rfl
  have b16 := F16.binds (ps := ["self", "picture"]) fun _ _ _ _ _ _ us hl => match us, hl with | [_, _], _ => rfl
  have b17 := F17.binds (ps := ["self"]) fun _ _ _ _ _ _ us hl => match us, hl with | [_], _ => rfl
  have b18 := F18.binds (ps := ["self", "picture"]) fun _ _ _ _ _ _ us hl => match us, hl with | [_, _], _ => rfl
  have b19 := F19.binds (ps := ["calls", "start"]) fun _ _ _ _ _ _ us hl => match us, hl with | [_, _], _ => rfl
  have b20 := F20.binds (ps := ["hold", "call"]) fun _ _ _ _ _ _ us hl => match us, hl with | [_, _], _ => rfl
  refine ⟨PySem.W.fnOf "answers" "answers" (defArgs sAns) (defBody sAns) (defScope sAns) .none kV21 dc21 pm21 an21 cd21 ct21, fun s us hu => match us, hu with | [_], _ => .of_eq rfl, fun base _ _ => ?_⟩
  have mg_ : ∀ {x : Str} {f : Addr}, PySem.W.nsIn K mainGlobals x = some (some (.ref f)) → mg x = some (.ref f) := fun a => PySem.W.mg_of X G a
  have G1 := ok_sizes (P := P) (w := w) (base := base) F1 T
  have G2 := ok_rank (P := P) (w := w) (mg := mg) (base := base) F2
  have G3 := ok_shifts F3 T G2 b2 (mg_ a2)
  have G4 := ok_row (P := P) (w := w) (base := base) F4 T
  have G5 := ok_finit F5 T G3 b3 (mg_ a3) k3
  have G6 := ok_cost F6 T G4 b4 (mg_ a4) k4
  have G7 := ok_found F7 T G6 b6 ⟨a6, i6, k6⟩
  have G8 := ok_refusal (P := P) (w := w) (mg := mg) (base := base) F8
  have G9 := ok_one (P := P) (w := w) (mg := mg) (base := base) F9
  have G10 := ok_keep (P := P) (w := w) (base := base) F10 T
  have G12 := ok_forget (P := P) (w := w) (base := base) F12 T
  have G11 := ok_hinit F11 T G12 b12 ⟨a12, i12, k12⟩
  have G17 := ok_gives (P := P) (w := w) (base := base) F17 T
  have G18 := ok_shown (P := P) (w := w) (base := base) F18 T
  have G15 := ok_where (P := P) (w := w) (base := base) F15 T
  have G16 := ok_follow F16 T G7 b7 ⟨a7, i7, k7⟩ G17 b17 ⟨a17, i17, k17⟩ G9 b9 (mg_ a9) k9 G10 b10 (mg_ a10) k10
  have G13 := ok_begin F13 T G1 b1 (mg_ a1) k1 G8 b8 (mg_ a8) k8 ⟨mkF, a5, i5, kcF⟩ G5 b5 G12 b12 ⟨a12, i12, k12⟩
  have G14 := ok_frame F14 T G8 b8 (mg_ a8) k8 G16 b16 ⟨a16, i16, k16⟩ G18 b18 ⟨a18, i18, k18⟩
  have G19 := ok_len (P := P) (w := w) (base := base) F19 T
  have G20 := ok_call F20 T G13 b13 ⟨a13, i13, k13⟩ G14 b14 ⟨a14, i14, k14⟩ G15 b15 ⟨a15, i15, k15⟩
  exact ok_ans F21 T ⟨mkH, a11, i11, kcH⟩ G11 b11 G19 b19 (mg_ a19) k19 G20 b20 (mg_ a20) k20
end HsP
open PySem PySem.W PyProof.Rows
set_option maxRecDepth 100000 in
set_option maxHeartbeats 16000000 in
theorem PySem.Challenge.cw_heldstill_s01_answers_holds : PySem.Challenge.rw_heldstill_s01_answers.Holds := by
  w_on; k_headS; (case hw => exact ⟨[.list [.int 0, .int 0, .int 0, .int 0, .int 0, .int 0]], by decide +kernel, by decide +kernel⟩)
  k_fillS
  refine L2.walk_specK (r := PySem.Challenge.rw_heldstill_s01_answers) (k := 9) (CX := L2.CX0) (ps := ["calls"]) (sp := HsP.spAns) (by decide +kernel) rfl rfl ⟨rfl, by decide, by decide⟩ (fun w h Y => PySem.W.kIn_of Y) ?F ?S (fun _ _ _ _ z => z)
  case F =>
    intro w mg fa h Y KX G hmg
    refine' HsP.all_mk KX G hmg ?xF ?xH ?a1 ?l1 ?c1 ?k1 ?a2 ?l2 ?c2 ?k2 ?a3 ?l3 ?c3 ?k3 ?a4 ?l4 ?c4 ?k4 ?a5 ?i5 ?l5 ?c5 ?k5 ?a6 ?i6 ?l6 ?c6 ?k6 ?a7 ?i7 ?l7 ?c7 ?k7 ?a8 ?l8 ?c8 ?k8 ?a9 ?l9 ?c9 ?k9 ?a10 ?l10 ?c10 ?k10 ?a11 ?i11 ?l11 ?c11 ?k11 ?a12 ?i12 ?l12 ?c12 ?k12 ?a13 ?i13 ?l13 ?c13 ?k13 ?a14 ?i14 ?l14 ?c14 ?k14 ?a15 ?i15 ?l15 ?c15 ?k15 ?a16 ?i16 ?l16 ?c16 ?k16 ?a17 ?i17 ?l17 ?c17 ?k17 ?a18 ?i18 ?l18 ?c18 ?k18 ?a19 ?l19 ?c19 ?k19 ?a20 ?l20 ?c20 ?k20 ?a21 ?l21 ?c21 ?k21 ?pgF ?hdF ?poF ?saF ?mkF ?kcF ?nF0 ?nF1 ?nF2 ?nF3 ?pgH ?hdH ?poH ?saH ?mkH ?kcH ?nH0 ?nH1 ?nH2 ?nH3 ?nH4 ?nH5 ?nH6 ?nH7 ?nH8 ?nH9 ?nH10 ?g1 ?g2 ?g3 ?g4 ?g5 ?g6 ?g7 ?g8 ?g9 ?z1 ?z2 ?z3 ?z4 ?z5 ?z6 ?z7 ?z8
    (case xF => k_is); (case xH => k_is); (case a1 => k_is); (case l1 => k_is); (case c1 => k_is); (case k1 => k_is)
    (case a2 => k_is); (case l2 => k_is); (case c2 => k_is); (case k2 => k_is); (case a3 => k_is); (case l3 => k_is)
    (case c3 => k_is); (case k3 => k_is); (case a4 => k_is); (case l4 => k_is); (case c4 => k_is); (case k4 => k_is)
    (case a5 => k_is); (case i5 => k_is); (case l5 => k_is); (case c5 => k_is); (case k5 => k_is); (case a6 => k_is)
    (case i6 => k_is); (case l6 => k_is); (case c6 => k_is); (case k6 => k_is); (case a7 => k_is); (case i7 => k_is)
    (case l7 => k_is); (case c7 => k_is); (case k7 => k_is); (case a8 => k_is); (case l8 => k_is); (case c8 => k_is)
    (case k8 => k_is); (case a9 => k_is); (case l9 => k_is); (case c9 => k_is); (case k9 => k_is); (case a10 => k_is)
    (case l10 => k_is); (case c10 => k_is); (case k10 => k_is); (case a11 => k_is); (case i11 => k_is); (case l11 => k_is)
    (case c11 => k_is); (case k11 => k_is); (case a12 => k_is); (case i12 => k_is); (case l12 => k_is); (case c12 => k_is)
    (case k12 => k_is); (case a13 => k_is); (case i13 => k_is); (case l13 => k_is); (case c13 => k_is); (case k13 => k_is)
    (case a14 => k_is); (case i14 => k_is); (case l14 => k_is); (case c14 => k_is); (case k14 => k_is); (case a15 => k_is)
    (case i15 => k_is); (case l15 => k_is); (case c15 => k_is); (case k15 => k_is); (case a16 => k_is); (case i16 => k_is)
    (case l16 => k_is); (case c16 => k_is); (case k16 => k_is); (case a17 => k_is); (case i17 => k_is); (case l17 => k_is)
    (case c17 => k_is); (case k17 => k_is); (case a18 => k_is); (case i18 => k_is); (case l18 => k_is); (case c18 => k_is)
    (case k18 => k_is); (case a19 => k_is); (case l19 => k_is); (case c19 => k_is); (case k19 => k_is); (case a20 => k_is)
    (case l20 => k_is); (case c20 => k_is); (case k20 => k_is); (case a21 => k_is); (case l21 => k_is); (case c21 => k_is)
    (case k21 => k_is); (case pgF => k_is); (case hdF => k_is); (case poF => k_is); (case saF => k_is); (case mkF => k_is)
    (case kcF => k_is); (case nF0 => k_is); (case nF1 => k_is); (case nF2 => k_is); (case nF3 => k_is); (case pgH => k_is)
    (case hdH => k_is); (case poH => k_is); (case saH => k_is); (case mkH => k_is); (case kcH => k_is); (case nH0 => k_is)
    (case nH1 => k_is); (case nH2 => k_is); (case nH3 => k_is); (case nH4 => k_is); (case nH5 => k_is); (case nH6 => k_is)
    (case nH7 => k_is); (case nH8 => k_is); (case nH9 => k_is); (case nH10 => k_is); (case g1 => k_is); (case g2 => k_is)
    (case g3 => k_is); (case g4 => k_is); (case g5 => k_is); (case g6 => k_is); (case g7 => k_is); (case g8 => k_is)
    (case g9 => k_is); (case z1 => k_is); (case z2 => k_is); (case z3 => k_is); (case z4 => k_is); (case z5 => k_is)
    (case z6 => k_is); (case z7 => k_is); (case z8 => k_is)
  case S =>
    intro K H xs a hO hwi hask hx
    cases hx with
    | cons h1 h2 =>
      cases h2
      cases h1 with
      | lst hs ha =>
        have e := L2.ints_dw a.1 _ ha
        subst e
        have q : ((Codec.inLen 0 30000 a.1 && a.1.all (Codec.inInt 0 4294967295)) && true) = true := hwi
        rw [Bool.and_eq_true, Bool.and_eq_true] at q
        exact ⟨_, a.1, rfl, hs, (Codec.inNat_iff.mp q.1.1).2, hask, fun H' p hp => .lst (L2.SqL.of hp) (L2.dw_ints _)⟩
#print axioms PySem.Challenge.cw_heldstill_s01_answers_holds

