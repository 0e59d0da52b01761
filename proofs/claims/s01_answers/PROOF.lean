import PyProof.Rows.All
import Wide.All
import OpenK.AllK
import Wide.FinOn
import Open.SpecLaws
import KE.OsHead
import KE.OsGo
import KE.KRevIter
import HandS.ForSpec
import HandS.ForMost
import HandS.Walk
import HandS.Wide
import HandS.Rev
import PySem.Challenge.RW_pictureareas_s01_answers
set_option maxRecDepth 100000
namespace Pa
/-! ### lists -/
abbrev Rows := List (List Nat)
/-- h rows of w cells -/
structure Ok (w h : Nat) (rows : Rows) : Prop where
  len : rows.length = h
  row : ∀ r ∈ rows, r.length = w
def grid (w h : Nat) (f : Nat → Nat → Nat) : Rows := (List.range h).map fun y => (List.range w).map fun x => f x y
theorem grid_ok (w h : Nat) (f : Nat → Nat → Nat) : Ok w h (grid w h f) := by
  refine ⟨by simp [grid], fun r hr => ?_⟩
  simp only [grid, List.mem_map] at hr
  obtain ⟨y, _, rfl⟩ := hr
  simp
theorem grid_congr {w h : Nat} {f g : Nat → Nat → Nat} (e : ∀ x y, x < w → y < h → f x y = g x y) : grid w h f = grid w h g := by
  unfold grid
  apply List.map_congr_left
  intro y hy
  apply List.map_congr_left
  intro x hx
  exact e x y (List.mem_range.mp hx) (List.mem_range.mp hy)
/-- the cell in column x of row y -/
def at2 (rows : Rows) (x y : Nat) : Nat := (rows.getD y []).getD x 0
theorem map_range_getD (l : List Nat) {n : Nat} (h : l.length = n) : (List.range n).map (fun x => l.getD x 0) = l := by
  apply List.ext_getElem?
  intro i
  by_cases hi : i < n
  · rw [List.getElem?_map, List.getElem?_range hi, List.getElem?_eq_getElem (by omega)]
    simp [List.getD, List.getElem?_eq_getElem (show i < l.length by omega)]
  · rw [List.getElem?_eq_none (by simp; omega), List.getElem?_eq_none (by omega)]
theorem grid_at2 {w h : Nat} {rows : Rows} (ok : Ok w h rows) : grid w h (at2 rows) = rows := by
  unfold grid
  apply List.ext_getElem?
  intro y
  by_cases hy : y < h
  · have hy' : y < rows.length := by rw [ok.len]; exact hy
    rw [List.getElem?_map, List.getElem?_range hy, List.getElem?_eq_getElem hy']
    show some ((List.range w).map fun x => at2 rows x y) = _
    have e : rows.getD y [] = rows[y] := by simp [List.getD, List.getElem?_eq_getElem hy']
    have : (List.range w).map (fun x => at2 rows x y) = rows[y] := by
      unfold at2
      rw [e]
      exact map_range_getD _ (ok.row _ (List.getElem_mem hy'))
    rw [this]
  · rw [List.getElem?_eq_none (by simp; omega), List.getElem?_eq_none (by rw [ok.len]; omega)]
theorem at2_grid {w h : Nat} {f : Nat → Nat → Nat} {x y : Nat} (hx : x < w) (hy : y < h) : at2 (grid w h f) x y = f x y := by
  unfold at2 grid
  simp [List.getD, List.getElem?_map, List.getElem?_range hy, List.getElem?_range hx]
theorem flat_at : ∀ {w h : Nat} {rows : Rows}, Ok w h rows → ∀ {x y : Nat}, x < w → y < h → rows.flatten.getD (y * w + x) 0 = at2 rows x y
  | w, h, [], ok, x, y, hx, hy => by
    have := ok.len
    simp at this
    omega
  | w, h, r :: rows, ok, x, y, hx, hy => by
    have hr : r.length = w := ok.row r List.mem_cons_self
    have hl : rows.length + 1 = h := ok.len
    rw [List.flatten_cons]
    cases y with
    | zero =>
      simp only [Nat.zero_mul, Nat.zero_add, at2, List.getD]
      rw [List.getElem?_append_left (by omega)]
      simp
    | succ y =>
      have ih := flat_at (w := w) (h := h - 1) (rows := rows) ⟨by omega, fun q hq => ok.row q (List.mem_cons_of_mem _ hq)⟩ (x := x) (y := y) hx (by omega)
      have e : (y + 1) * w + x = r.length + (y * w + x) := by rw [hr, Nat.succ_mul]; omega
      simp only [List.getD] at ih ⊢
      rw [e, List.getElem?_append_right (by omega)]
      have e2 : r.length + (y * w + x) - r.length = y * w + x := by omega
      rw [e2, ih]
      simp [at2, List.getD]
/-- a picture of the specification, of d and rows -/
def pic (w h d : Nat) (rows : Rows) : Ie05.Pic := ⟨w, h, d, rows.flatten⟩
theorem pic_at {w h d : Nat} {rows : Rows} (ok : Ok w h rows) {x y : Nat} (hx : x < w) (hy : y < h) : (pic w h d rows).at_ x y = at2 rows x y := flat_at ok hx hy
/-! ### as low as it can be -/
def gcdR (d : Nat) (rows : Rows) : Nat := rows.foldl (fun g r => r.foldl Nat.gcd g) d
theorem gcdR_flat (d : Nat) (rows : Rows) : gcdR d rows = rows.flatten.foldl Nat.gcd d := by
  unfold gcdR
  rw [List.foldl_flatten]
def lowD (d : Nat) (rows : Rows) : Nat := d / gcdR d rows
def lowR (d : Nat) (rows : Rows) : Rows := rows.map fun r => r.map fun n => n / gcdR d rows
theorem lowR_ok {w h d : Nat} {rows : Rows} (ok : Ok w h rows) : Ok w h (lowR d rows) := by
  refine ⟨by simp [lowR, ok.len], fun r hr => ?_⟩
  simp only [lowR, List.mem_map] at hr
  obtain ⟨q, hq, rfl⟩ := hr
  simp [ok.row q hq]
theorem low_is (w h d : Nat) (rows : Rows) : Ie05.low w h d rows.flatten = pic w h (lowD d rows) (lowR d rows) := by
  unfold Ie05.low pic lowD lowR
  simp only [← gcdR_flat, List.map_flatten]
theorem of_is (w h d : Nat) (f : Nat → Nat → Nat) : Ie05.Pic.of w h d f = pic w h (lowD d (grid w h f)) (lowR d (grid w h f)) := by
  unfold Ie05.Pic.of
  rw [← low_is]
  rfl
theorem dvd_foldl_gcd {k : Nat} : ∀ {l : List Nat} {d : Nat}, k ∣ l.foldl Nat.gcd d ↔ k ∣ d ∧ ∀ x ∈ l, k ∣ x
  | [], d => by simp
  | a :: l, d => by
    rw [List.foldl_cons, dvd_foldl_gcd (l := l), Nat.dvd_gcd_iff]
    simp only [List.mem_cons, forall_eq_or_imp]
    constructor
    · rintro ⟨⟨h1, h2⟩, h3⟩; exact ⟨h1, h2, h3⟩
    · rintro ⟨h1, h2, h3⟩; exact ⟨⟨h1, h2⟩, h3⟩
theorem gcd_same {l m : List Nat} {d : Nat} (h : ∀ x, x ∈ l ↔ x ∈ m) : l.foldl Nat.gcd d = m.foldl Nat.gcd d := by
  apply Nat.dvd_antisymm
  · have h1 := (dvd_foldl_gcd (l := l) (d := d)).mp (Nat.dvd_refl _)
    exact dvd_foldl_gcd.mpr ⟨h1.1, fun x hx => h1.2 x ((h x).mpr hx)⟩
  · have h1 := (dvd_foldl_gcd (l := m) (d := d)).mp (Nat.dvd_refl _)
    exact dvd_foldl_gcd.mpr ⟨h1.1, fun x hx => h1.2 x ((h x).mp hx)⟩
theorem gcdR_dvd (d : Nat) (rows : Rows) : gcdR d rows ∣ d := by
  rw [gcdR_flat]
  exact (dvd_foldl_gcd.mp (Nat.dvd_refl _)).1
theorem gcdR_pos {d : Nat} (rows : Rows) (h : 0 < d) : 0 < gcdR d rows := Nat.pos_of_dvd_of_pos (gcdR_dvd d rows) h
theorem gcdR_le {d : Nat} (rows : Rows) (h : 0 < d) : gcdR d rows ≤ d := Nat.le_of_dvd h (gcdR_dvd d rows)
theorem lowD_pos {d : Nat} (rows : Rows) (h : 0 < d) : 0 < lowD d rows := Nat.div_pos (gcdR_le rows h) (gcdR_pos rows h)
/-- d is as low as it can be -/
def Low (d : Nat) (rows : Rows) : Prop := gcdR d rows = 1
theorem low_low {d : Nat} (rows : Rows) (hd : 0 < d) : Low (lowD d rows) (lowR d rows) := by
  unfold Low
  have hg := gcdR_pos rows hd
  have key : gcdR (lowD d rows) (lowR d rows) * gcdR d rows ∣ gcdR d rows := by
    have h0 := gcdR_flat (lowD d rows) (lowR d rows)
    have h1 := (dvd_foldl_gcd (l := (lowR d rows).flatten) (d := lowD d rows) (k := gcdR (lowD d rows) (lowR d rows))).mp (by rw [← h0]; exact Nat.dvd_refl _)
    have h2 := (dvd_foldl_gcd (l := rows.flatten) (d := d) (k := gcdR d rows)).mp (by rw [← gcdR_flat]; exact Nat.dvd_refl _)
    rw [gcdR_flat d rows]
    refine dvd_foldl_gcd.mpr ⟨?_, fun x hx => ?_⟩
    · obtain ⟨c, hc⟩ := h1.1
      have : d = gcdR d rows * lowD d rows := (Nat.mul_div_cancel' h2.1).symm
      rw [← gcdR_flat d rows]
      exact ⟨c, by rw [Nat.mul_comm (gcdR (lowD d rows) (lowR d rows)), Nat.mul_assoc, ← hc]; exact this⟩
    · have hm : x / gcdR d rows ∈ (lowR d rows).flatten := by
        unfold lowR
        rw [← List.map_flatten]
        exact List.mem_map.mpr ⟨x, hx, rfl⟩
      obtain ⟨c, hc⟩ := h1.2 _ hm
      have : x = gcdR d rows * (x / gcdR d rows) := (Nat.mul_div_cancel' (h2.2 x hx)).symm
      rw [← gcdR_flat d rows]
      exact ⟨c, by rw [Nat.mul_comm (gcdR (lowD d rows) (lowR d rows)), Nat.mul_assoc, ← hc]; exact this⟩
  have h3 := Nat.le_of_dvd hg key
  have h4 : 0 < gcdR (lowD d rows) (lowR d rows) := gcdR_pos _ (lowD_pos rows hd)
  have h5 : gcdR (lowD d rows) (lowR d rows) ≤ 1 := by
    apply Nat.le_of_mul_le_mul_right (c := gcdR d rows) _ hg
    omega
  omega
theorem low_id {d : Nat} {rows : Rows} (h : Low d rows) : lowD d rows = d ∧ lowR d rows = rows := by
  unfold Low at h
  unfold lowD lowR
  rw [h]
  simp
theorem low_same {d : Nat} {a b : Rows} (l : Low d a) (h : ∀ x, x ∈ b.flatten ↔ x ∈ a.flatten) : Low d b := by
  unfold Low at *
  rw [gcdR_flat] at *
  rw [gcd_same h]
  exact l
theorem low_one (rows : Rows) : Low 1 rows := by
  unfold Low
  exact Nat.dvd_one.mp (gcdR_dvd 1 rows)
end Pa

set_option maxRecDepth 100000
namespace Pa
/-! ### another size -/
def dot (r ws : List Nat) : Nat := (List.zipWith (fun a b => a * b) r ws).sum
def cols (rows : Rows) : Rows := (List.range (rows.getD 0 []).length).map fun x => rows.map fun r => r.getD x 0
def resizedRows (rows : Rows) (all : List (List Nat)) : Rows := rows.map fun r => all.map fun ws => dot r ws
def weightsAll (wt : Nat → Nat → Nat → List Nat) (old new : Nat) : List (List Nat) := (List.range new).map fun p => wt old new p
def resized (wt : Nat → Nat → Nat → List Nat) (rows : Rows) (w h w' h' : Nat) : Rows :=
  cols (resizedRows (cols (resizedRows rows (weightsAll wt w w'))) (weightsAll wt h h'))
theorem cols_grid {w h : Nat} {rows : Rows} (ok : Ok w h rows) (hh : 0 < h) : cols rows = (List.range w).map fun x => rows.map fun r => r.getD x 0 := by
  unfold cols
  have e : (rows.getD 0 []).length = w := by
    have h0 : 0 < rows.length := by rw [ok.len]; exact hh
    have : rows.getD 0 [] = rows[0] := by simp [List.getD, List.getElem?_eq_getElem h0]
    rw [this]
    exact ok.row _ (List.getElem_mem h0)
  rw [e]
theorem cols_ok {w h : Nat} {rows : Rows} (ok : Ok w h rows) (hh : 0 < h) : Ok h w (cols rows) := by
  rw [cols_grid ok hh]
  refine ⟨by simp, fun r hr => ?_⟩
  simp only [List.mem_map] at hr
  obtain ⟨x, _, rfl⟩ := hr
  simp [ok.len]
theorem resizedRows_ok {w h w' : Nat} {rows : Rows} {all : List (List Nat)} (ok : Ok w h rows) (ha : all.length = w') : Ok w' h (resizedRows rows all) := by
  refine ⟨by simp [resizedRows, ok.len], fun r hr => ?_⟩
  simp only [resizedRows, List.mem_map] at hr
  obtain ⟨q, _, rfl⟩ := hr
  simp [ha]
theorem weightsAll_len (wt : Nat → Nat → Nat → List Nat) (old new : Nat) : (weightsAll wt old new).length = new := by simp [weightsAll]
theorem getD_weights (wt : Nat → Nat → Nat → List Nat) (old new : Nat) (r : List Nat) {x : Nat} (hx : x < new) : ((weightsAll wt old new).map fun ws => dot r ws).getD x 0 = dot r (wt old new x) := by
  simp [weightsAll, List.getD, List.getElem?_map, List.getElem?_range hx]
/-- what a line becomes at one place: g row -/
theorem resized_is {wt : Nat → Nat → Nat → List Nat} {rows : Rows} {w h w' h' : Nat} (ok : Ok w h rows) (hh : 0 < h) (hw' : 0 < w') :
    resized wt rows w h w' h' = grid w' h' fun x y => dot (rows.map fun r => dot r (wt w w' x)) (wt h h' y) := by
  unfold resized
  have ok1 : Ok w' h (resizedRows rows (weightsAll wt w w')) := resizedRows_ok ok (weightsAll_len ..)
  have ok2 := cols_ok ok1 hh
  have e2 : cols (resizedRows rows (weightsAll wt w w')) = (List.range w').map fun x => rows.map fun r => dot r (wt w w' x) := by
    rw [cols_grid ok1 hh]
    apply List.map_congr_left
    intro x hx
    unfold resizedRows
    rw [List.map_map]
    apply List.map_congr_left
    intro r _
    exact getD_weights wt w w' r (List.mem_range.mp hx)
  have ok3 : Ok h' w' (resizedRows (cols (resizedRows rows (weightsAll wt w w'))) (weightsAll wt h h')) := resizedRows_ok ok2 (weightsAll_len ..)
  rw [cols_grid ok3 hw']
  unfold grid
  apply List.map_congr_left
  intro y hy
  rw [e2]
  unfold resizedRows
  rw [List.map_map, List.map_map]
  apply List.map_congr_left
  intro x _
  exact getD_weights wt h h' _ (List.mem_range.mp hy)
/-! sums -/
theorem sum_eq (l : List Nat) : Ie05.sum l = l.sum := by
  unfold Ie05.sum
  have : ∀ (l : List Nat) (a : Nat), l.foldl (fun s x => s + x) a = a + l.sum := by
    intro l
    induction l with
    | nil => intro a; simp
    | cons x l ih => intro a; rw [List.foldl_cons, ih, List.sum_cons]; omega
  rw [this]
  omega
theorem dot_range (r : List Nat) {n : Nat} (h : r.length = n) (f : Nat → Nat) : dot r ((List.range n).map f) = ((List.range n).map fun i => r.getD i 0 * f i).sum := by
  unfold dot
  congr 1
  apply List.ext_getElem?
  intro i
  by_cases hi : i < n
  · simp [List.getElem?_zipWith, List.getElem?_map, List.getElem?_range hi, List.getElem?_eq_getElem (show i < r.length by omega), List.getD]
  · rw [List.getElem?_eq_none (by simp; omega), List.getElem?_eq_none (by simp; omega)]
theorem sum_map_mul (l : List Nat) (f : Nat → Nat) (c : Nat) : (l.map fun i => f i * c).sum = (l.map f).sum * c := by
  induction l with
  | nil => simp
  | cons a l ih => simp only [List.map_cons, List.sum_cons, ih, Nat.add_mul]
theorem sum_flatMap (l : List Nat) (f : Nat → List Nat) : (l.flatMap f).sum = (l.map fun j => (f j).sum).sum := by
  induction l with
  | nil => simp
  | cons a l ih => simp only [List.flatMap_cons, List.sum_append, List.map_cons, List.sum_cons, ih]
theorem sum_zero : ∀ (l : List Nat), (∀ x ∈ l, x = 0) → l.sum = 0
  | [], _ => rfl
  | a :: l, h => by
    rw [List.sum_cons, sum_zero l fun x hx => h x (List.mem_cons_of_mem _ hx), h a List.mem_cons_self]
/-- a sum with one item alone that is not zero -/
theorem sum_one (f : Nat → Nat) : ∀ (n k : Nat), k < n → (∀ i, i < n → i ≠ k → f i = 0) → ((List.range n).map f).sum = f k
  | 0, k, hk, _ => by omega
  | n + 1, k, hk, h => by
    rw [List.range_succ, List.map_append, List.sum_append]
    by_cases e : k = n
    · subst e
      have : ((List.range k).map f).sum = 0 := by
        apply sum_zero
        intro x hx
        obtain ⟨i, hi, rfl⟩ := List.mem_map.mp hx
        have := List.mem_range.mp hi
        exact h i (by omega) (by omega)
      rw [this]
      simp
    · rw [sum_one f n k (by omega) fun i hi hne => h i (by omega) hne]
      simp [h n (by omega) (by omega)]
theorem sum_two (f : Nat → Nat) : ∀ (n k : Nat), k + 1 < n → (∀ i, i < n → i ≠ k → i ≠ k + 1 → f i = 0) → ((List.range n).map f).sum = f k + f (k + 1)
  | 0, k, hk, _ => by omega
  | n + 1, k, hk, h => by
    rw [List.range_succ, List.map_append, List.sum_append]
    by_cases e : k + 1 = n
    · subst e
      rw [sum_one f (k + 1) k (by omega) fun i hi hne => h i (by omega) hne (by omega)]
      simp
    · rw [sum_two f n k (by omega) fun i hi h1 h2 => h i (by omega) h1 h2]
      simp [h n (by omega) (by omega) (by omega)]
/-! by areas -/
def areaW (old new place : Nat) : List Nat := (List.range old).map fun x => Ie05.share old new place x
theorem areaW_sum {old new : Nat} (hn : 0 < new) : (areaW old new 0).sum = old := by
  have key : ∀ k, ((List.range k).map fun x => Ie05.share old new 0 x).sum = min old (k * new) := by
    intro k
    induction k with
    | zero => simp
    | succ k ih =>
      rw [List.range_succ, List.map_append, List.sum_append, ih]
      simp only [List.map_cons, List.map_nil, List.sum_cons, List.sum_nil, Ie05.share, Nat.zero_mul, Nat.zero_add, Nat.succ_mul]
      generalize k * new = a
      omega
  unfold areaW
  rw [key]
  apply Nat.min_eq_left
  exact Nat.le_mul_of_pos_right old hn
theorem area_at {rows : Rows} {w h d w' h' : Nat} (ok : Ok w h rows) (x y : Nat) :
    Ie05.sum ((List.range h).flatMap fun j => (List.range w).map fun i => (pic w h d rows).at_ i j * (Ie05.share w w' x i * Ie05.share h h' y j)) =
    dot (rows.map fun r => dot r (areaW w w' x)) (areaW h h' y) := by
  rw [sum_eq, sum_flatMap, areaW, areaW, dot_range _ (by simp [ok.len])]
  congr 1
  apply List.map_congr_left
  intro j hj
  have hj := List.mem_range.mp hj
  have hj' : j < rows.length := by rw [ok.len]; exact hj
  have e : (rows.map fun r => dot r ((List.range w).map fun i => Ie05.share w w' x i)).getD j 0 = dot rows[j] ((List.range w).map fun i => Ie05.share w w' x i) := by
    simp [List.getD, List.getElem?_map, List.getElem?_eq_getElem hj']
  rw [e, dot_range _ (ok.row _ (List.getElem_mem hj')), ← sum_map_mul]
  congr 1
  apply List.map_congr_left
  intro i hi
  have hi := List.mem_range.mp hi
  rw [pic_at ok hi hj]
  have e2 : at2 rows i j = rows[j].getD i 0 := by simp [at2, List.getD, List.getElem?_eq_getElem hj']
  rw [e2, Nat.mul_assoc]
theorem area_is {rows : Rows} {w h d w' h' : Nat} (ok : Ok w h rows) (hh : 0 < h) (hw' : 0 < w') :
    Ie05.area w' h' (pic w h d rows) = pic w' h' (lowD (d * w * h) (resized areaW rows w h w' h')) (lowR (d * w * h) (resized areaW rows w h w' h')) := by
  unfold Ie05.area
  rw [of_is, resized_is ok hh hw', Nat.mul_assoc]
  have e : grid w' h' (fun x y => Ie05.sum ((List.range (pic w h d rows).h).flatMap fun j => (List.range (pic w h d rows).w).map fun i => (pic w h d rows).at_ i j * (Ie05.share (pic w h d rows).w w' x i * Ie05.share (pic w h d rows).h h' y j))) = grid w' h' fun x y => dot (rows.map fun r => dot r (areaW w w' x)) (areaW h h' y) :=
    grid_congr fun x y _ _ => area_at ok x y
  rw [e]
  rfl
/-! by the nearest -/
def nearW (old new place : Nat) : List Nat := (List.range old).map fun x => if x = (2 * place + 1) * old / (2 * new) then 1 else 0
theorem near_lt {old new place : Nat} (ho : 0 < old) (hp : place < new) : (2 * place + 1) * old / (2 * new) < old := by
  rw [Nat.div_lt_iff_lt_mul (by omega), Nat.mul_comm old]
  exact Nat.mul_lt_mul_of_pos_right (by omega) ho
theorem middle_is {old new place : Nat} (ho : 0 < old) (hp : place < new) : Ie05.middle old new place = (2 * place + 1) * old / (2 * new) := by
  unfold Ie05.middle
  have := near_lt ho hp
  omega
theorem nearW_sum {old new place : Nat} (ho : 0 < old) (hp : place < new) : (nearW old new place).sum = 1 := by
  unfold nearW
  rw [sum_one _ old _ (near_lt ho hp) fun i _ hne => if_neg hne, if_pos rfl]
theorem near_dot {old new place : Nat} (ho : 0 < old) (hp : place < new) {r : List Nat} (hr : r.length = old) : dot r (nearW old new place) = r.getD (Ie05.middle old new place) 0 := by
  rw [middle_is ho hp]
  unfold nearW
  rw [dot_range r hr, sum_one _ old _ (near_lt ho hp) fun i _ hne => by rw [if_neg hne, Nat.mul_zero], if_pos rfl, Nat.mul_one]
theorem getD_map_rows {rows : Rows} {f : List Nat → Nat} {y : Nat} (hy : y < rows.length) : (rows.map f).getD y 0 = f (rows.getD y []) := by
  simp [List.getD, List.getElem?_map, List.getElem?_eq_getElem hy]
theorem getD_mem_rows {rows : Rows} {y : Nat} (hy : y < rows.length) : rows.getD y [] ∈ rows := by
  have : rows.getD y [] = rows[y] := by simp [List.getD, List.getElem?_eq_getElem hy]
  rw [this]
  exact List.getElem_mem hy
theorem nearest_is {rows : Rows} {w h d w' h' : Nat} (ok : Ok w h rows) (hw : 0 < w) (hh : 0 < h) (hw' : 0 < w') :
    Ie05.nearest w' h' (pic w h d rows) = pic w' h' (lowD d (resized nearW rows w h w' h')) (lowR d (resized nearW rows w h w' h')) := by
  unfold Ie05.nearest
  rw [of_is, resized_is ok hh hw']
  have e : grid w' h' (fun x y => (pic w h d rows).at_ (Ie05.middle (pic w h d rows).w w' x) (Ie05.middle (pic w h d rows).h h' y)) = grid w' h' fun x y => dot (rows.map fun r => dot r (nearW w w' x)) (nearW h h' y) := by
    refine grid_congr fun x y hx hy => ?_
    show (pic w h d rows).at_ (Ie05.middle w w' x) (Ie05.middle h h' y) = _
    have m1 : Ie05.middle w w' x < w := by rw [middle_is hw hx]; exact near_lt hw hx
    have m2 : Ie05.middle h h' y < h := by rw [middle_is hh hy]; exact near_lt hh hy
    rw [pic_at ok m1 m2, near_dot hh hy (by simp [ok.len]), getD_map_rows (by rw [ok.len]; exact m2), near_dot hw hx (ok.row _ (getD_mem_rows (by rw [ok.len]; exact m2)))]
    rfl
  rw [e]
  rfl
/-! by what lies between -/
/-- how far behind the first old middle, in 2 new-ths of a cell -/
def inside (old new place : Nat) : Nat := min ((2 * place + 1) * old - new) (2 * new * (old - 1))
def betwW (old new place : Nat) : List Nat := (List.range old).map fun x => 2 * new - (inside old new place - 2 * new * x) - (2 * new * x - inside old new place)
theorem spot_is {old new place : Nat} (ho : 0 < old) (hn : 0 < new) :
    inside old new place = 2 * new * (Ie05.spot old new place).1 + (Ie05.spot old new place).2 ∧ (Ie05.spot old new place).2 < 2 * new ∧ (Ie05.spot old new place).1 < old ∧ ((Ie05.spot old new place).2 ≠ 0 → (Ie05.spot old new place).1 + 1 < old) := by
  unfold Ie05.spot inside
  dsimp only
  by_cases c : (2 * place + 1) * old < new
  · rw [if_pos c]
    have : (2 * place + 1) * old - new = 0 := by omega
    rw [this]
    simp
    omega
  · rw [if_neg c]
    generalize (2 * place + 1) * old - new = a
    have hq := Nat.div_add_mod a (2 * new)
    have hr := Nat.mod_lt a (show 2 * new > 0 by omega)
    by_cases c2 : old - 1 ≤ a / (2 * new)
    · rw [if_pos c2]
      have : 2 * new * (old - 1) ≤ a := by
        have := Nat.mul_le_mul_left (2 * new) c2
        omega
      simp only
      omega
    · rw [if_neg c2]
      simp only
      have : 2 * new * (a / (2 * new) + 1) ≤ 2 * new * (old - 1) := Nat.mul_le_mul_left _ (by omega)
      rw [Nat.mul_add, Nat.mul_one] at this
      omega
theorem betw_w {old new place x : Nat} (ho : 0 < old) (hn : 0 < new) :
    2 * new - (inside old new place - 2 * new * x) - (2 * new * x - inside old new place) =
      if x = (Ie05.spot old new place).1 then 2 * new - (Ie05.spot old new place).2 else if x = (Ie05.spot old new place).1 + 1 then (Ie05.spot old new place).2 else 0 := by
  obtain ⟨e, h1, h2, h3⟩ := spot_is (place := place) ho hn
  generalize (Ie05.spot old new place).1 = k at *
  generalize (Ie05.spot old new place).2 = t at *
  rw [e]
  by_cases c : x = k
  · subst c
    rw [if_pos rfl]
    omega
  · rw [if_neg c]
    by_cases c2 : x = k + 1
    · subst c2
      rw [if_pos rfl, Nat.mul_add, Nat.mul_one]
      omega
    · rw [if_neg c2]
      by_cases c3 : x < k
      · have := Nat.mul_le_mul_left (2 * new) (show x + 1 ≤ k by omega)
        rw [Nat.mul_add, Nat.mul_one] at this
        omega
      · have := Nat.mul_le_mul_left (2 * new) (show k + 2 ≤ x by omega)
        rw [Nat.mul_add] at this
        omega
theorem betw_dot {old new place : Nat} (ho : 0 < old) (hn : 0 < new) {r : List Nat} (hr : r.length = old) :
    dot r (betwW old new place) = r.getD (Ie05.spot old new place).1 0 * (2 * new - (Ie05.spot old new place).2) + (if (Ie05.spot old new place).2 = 0 then 0 else r.getD ((Ie05.spot old new place).1 + 1) 0 * (Ie05.spot old new place).2) := by
  unfold betwW
  rw [dot_range r hr]
  have e : (fun i => r.getD i 0 * (2 * new - (inside old new place - 2 * new * i) - (2 * new * i - inside old new place))) = fun i => r.getD i 0 * (if i = (Ie05.spot old new place).1 then 2 * new - (Ie05.spot old new place).2 else if i = (Ie05.spot old new place).1 + 1 then (Ie05.spot old new place).2 else 0) := by
    funext i
    rw [betw_w ho hn]
  rw [e]
  obtain ⟨_, h1, h2, h3⟩ := spot_is (place := place) ho hn
  generalize (Ie05.spot old new place).1 = k at *
  generalize (Ie05.spot old new place).2 = t at *
  by_cases c : t = 0
  · subst c
    rw [if_pos rfl, sum_one _ old k h2 fun i _ hne => by rw [if_neg hne]; simp]
    simp
  · rw [if_neg c, sum_two _ old k (h3 c) fun i _ n1 n2 => by rw [if_neg n1, if_neg n2, Nat.mul_zero]]
    simp
theorem betwW_sum {old new place : Nat} (ho : 0 < old) (hn : 0 < new) : (betwW old new place).sum = 2 * new := by
  unfold betwW
  have e : (fun i => (2 * new - (inside old new place - 2 * new * i) - (2 * new * i - inside old new place))) = fun i => (if i = (Ie05.spot old new place).1 then 2 * new - (Ie05.spot old new place).2 else if i = (Ie05.spot old new place).1 + 1 then (Ie05.spot old new place).2 else 0) := by
    funext i
    rw [betw_w ho hn]
  rw [e]
  obtain ⟨_, h1, h2, h3⟩ := spot_is (place := place) ho hn
  generalize (Ie05.spot old new place).1 = k at *
  generalize (Ie05.spot old new place).2 = t at *
  by_cases c : t = 0
  · subst c
    rw [sum_one _ old k h2 fun i _ hne => by rw [if_neg hne]; simp]
    simp
  · rw [sum_two _ old k (h3 c) fun i _ n1 n2 => by rw [if_neg n1, if_neg n2]]
    simp
    omega
theorem between_is {rows : Rows} {w h d w' h' : Nat} (ok : Ok w h rows) (hw : 0 < w) (hh : 0 < h) (hw' : 0 < w') (hh' : 0 < h') :
    Ie05.between w' h' (pic w h d rows) = pic w' h' (lowD (d * (2 * w') * (2 * h')) (resized betwW rows w h w' h')) (lowR (d * (2 * w') * (2 * h')) (resized betwW rows w h w' h')) := by
  unfold Ie05.between
  rw [of_is, resized_is ok hh hw', Nat.mul_assoc d]
  have key : ∀ x j, x < w' → j < h → (pic w h d rows).at_ (Ie05.spot w w' x).1 j * (2 * w' - (Ie05.spot w w' x).2) + (if (Ie05.spot w w' x).2 = 0 then 0 else (pic w h d rows).at_ ((Ie05.spot w w' x).1 + 1) j * (Ie05.spot w w' x).2) = dot (rows.getD j []) (betwW w w' x) := by
    intro x j hx hj
    obtain ⟨_, _, h2, h3⟩ := spot_is (old := w) (new := w') (place := x) hw hw'
    rw [betw_dot hw hw' (ok.row _ (getD_mem_rows (by rw [ok.len]; exact hj))), pic_at ok h2 hj]
    by_cases c : (Ie05.spot w w' x).2 = 0
    · rw [if_pos c, if_pos c]; rfl
    · rw [if_neg c, if_neg c, pic_at ok (h3 c) hj]; rfl
  have e : grid w' h' (fun x y =>
      let a := Ie05.spot (pic w h d rows).w w' x
      let b := Ie05.spot (pic w h d rows).h h' y
      let row := fun j => (pic w h d rows).at_ a.1 j * (2 * w' - a.2) + (if a.2 = 0 then 0 else (pic w h d rows).at_ (a.1 + 1) j * a.2)
      row b.1 * (2 * h' - b.2) + (if b.2 = 0 then 0 else row (b.1 + 1) * b.2)) = grid w' h' fun x y => dot (rows.map fun r => dot r (betwW w w' x)) (betwW h h' y) := by
    refine grid_congr fun x y hx hy => ?_
    dsimp only
    obtain ⟨_, _, h2, h3⟩ := spot_is (old := h) (new := h') (place := y) hh hh'
    show ((pic w h d rows).at_ (Ie05.spot w w' x).1 (Ie05.spot h h' y).1 * (2 * w' - (Ie05.spot w w' x).2) + (if (Ie05.spot w w' x).2 = 0 then 0 else (pic w h d rows).at_ ((Ie05.spot w w' x).1 + 1) (Ie05.spot h h' y).1 * (Ie05.spot w w' x).2)) * (2 * h' - (Ie05.spot h h' y).2) +
      (if (Ie05.spot h h' y).2 = 0 then 0 else ((pic w h d rows).at_ (Ie05.spot w w' x).1 ((Ie05.spot h h' y).1 + 1) * (2 * w' - (Ie05.spot w w' x).2) + (if (Ie05.spot w w' x).2 = 0 then 0 else (pic w h d rows).at_ ((Ie05.spot w w' x).1 + 1) ((Ie05.spot h h' y).1 + 1) * (Ie05.spot w w' x).2)) * (Ie05.spot h h' y).2) = _
    rw [betw_dot hh hh' (by simp [ok.len]), key x _ hx h2, getD_map_rows (by rw [ok.len]; exact h2)]
    by_cases c : (Ie05.spot h h' y).2 = 0
    · rw [if_pos c, if_pos c]
    · rw [if_neg c, if_neg c, key x _ hx (h3 c), getD_map_rows (by rw [ok.len]; exact h3 c)]
  rw [e]
  rfl
end Pa

set_option maxRecDepth 100000
namespace Pa
theorem mem_flat {w h : Nat} {rows : Rows} (ok : Ok w h rows) (v : Nat) : v ∈ rows.flatten ↔ ∃ x y, x < w ∧ y < h ∧ at2 rows x y = v := by
  constructor
  · intro hv
    obtain ⟨r, hr, hv⟩ := List.mem_flatten.mp hv
    obtain ⟨y, hy, rfl⟩ := List.mem_iff_getElem.mp hr
    obtain ⟨x, hx, rfl⟩ := List.mem_iff_getElem.mp hv
    refine ⟨x, y, by rw [← ok.row _ (List.getElem_mem hy)]; exact hx, by rw [← ok.len]; exact hy, ?_⟩
    simp [at2, List.getD, List.getElem?_eq_getElem hy, List.getElem?_eq_getElem hx]
  · rintro ⟨x, y, hx, hy, rfl⟩
    have hy' : y < rows.length := by rw [ok.len]; exact hy
    have hm := getD_mem_rows hy'
    refine List.mem_flatten.mpr ⟨_, hm, ?_⟩
    have hx' : x < (rows.getD y []).length := by rw [ok.row _ hm]; exact hx
    unfold at2
    have : (rows.getD y []).getD x 0 = (rows.getD y [])[x] := by
      rw [List.getD, List.getElem?_eq_getElem hx']
      rfl
    rw [this]
    exact List.getElem_mem hx'
/-- a picture told anew by places, each of its cells some cell of the old one and each old one there: d stays -/
theorem of_perm {w h w' h' d : Nat} {rows : Rows} (ok : Ok w h rows) (l : Low d rows) {f : Nat → Nat → Nat} {R : Rows} (okR : Ok w' h' R) (hf : ∀ x y, x < w' → y < h' → f x y = at2 R x y)
    (h1 : ∀ x y, x < w' → y < h' → ∃ x' y', x' < w ∧ y' < h ∧ at2 R x y = at2 rows x' y') (h2 : ∀ x y, x < w → y < h → ∃ x' y', x' < w' ∧ y' < h' ∧ at2 R x' y' = at2 rows x y) :
    Ie05.Pic.of w' h' d f = pic w' h' d R ∧ Low d R := by
  have e : grid w' h' f = R := (grid_congr hf).trans (grid_at2 okR)
  have lR : Low d R := low_same l fun v => by
    rw [mem_flat ok, mem_flat okR]
    constructor
    · rintro ⟨x, y, hx, hy, rfl⟩
      obtain ⟨x', y', a, b, e⟩ := h1 x y hx hy
      exact ⟨x', y', a, b, e.symm⟩
    · rintro ⟨x, y, hx, hy, rfl⟩
      obtain ⟨x', y', a, b, e⟩ := h2 x y hx hy
      exact ⟨x', y', a, b, e⟩
  rw [of_is, e, (low_id lR).1, (low_id lR).2]
  exact ⟨rfl, lR⟩
theorem getD_rev (r : List Nat) {x : Nat} (hx : x < r.length) : r.reverse.getD x 0 = r.getD (r.length - 1 - x) 0 := by
  simp only [List.getD]
  rw [List.getElem?_reverse hx]
theorem at2_map_rev {w h : Nat} {rows : Rows} (ok : Ok w h rows) {x y : Nat} (hx : x < w) (hy : y < h) : at2 (rows.map List.reverse) x y = at2 rows (w - 1 - x) y := by
  have hy' : y < rows.length := by rw [ok.len]; exact hy
  have e : (rows.map List.reverse).getD y [] = (rows.getD y []).reverse := by
    simp [List.getD, List.getElem?_map, List.getElem?_eq_getElem hy']
  have hl := ok.row _ (getD_mem_rows hy')
  unfold at2
  rw [e, getD_rev _ (by rw [hl]; exact hx), hl]
theorem map_rev_ok {w h : Nat} {rows : Rows} (ok : Ok w h rows) : Ok w h (rows.map List.reverse) := by
  refine ⟨by simp [ok.len], fun r hr => ?_⟩
  obtain ⟨q, hq, rfl⟩ := List.mem_map.mp hr
  simp [ok.row q hq]
theorem at2_cols {w h : Nat} {rows : Rows} (ok : Ok w h rows) (hh : 0 < h) {x y : Nat} (hx : x < h) (hy : y < w) : at2 (cols rows) x y = at2 rows y x := by
  rw [cols_grid ok hh]
  unfold at2
  have hx' : x < rows.length := by rw [ok.len]; exact hx
  simp [List.getD, List.getElem?_map, List.getElem?_range hy, List.getElem?_eq_getElem hx']
/-- a quarter turn of the rows -/
def quarterR (rows : Rows) : Rows := (cols rows).map List.reverse
theorem quarterR_ok {w h : Nat} {rows : Rows} (ok : Ok w h rows) (hh : 0 < h) : Ok h w (quarterR rows) := map_rev_ok (cols_ok ok hh)
theorem quarter_is {w h d : Nat} {rows : Rows} (ok : Ok w h rows) (hh : 0 < h) (l : Low d rows) : Ie05.quarter (pic w h d rows) = pic h w d (quarterR rows) ∧ Low d (quarterR rows) := by
  have key : ∀ x y, x < h → y < w → at2 (quarterR rows) x y = at2 rows y (h - 1 - x) := fun x y hx hy => by
    unfold quarterR
    rw [at2_map_rev (cols_ok ok hh) hx hy, at2_cols ok hh (by omega) hy]
  refine of_perm (w' := h) (h' := w) ok l (quarterR_ok ok hh) (fun x y hx hy => ?_) (fun x y hx hy => ⟨y, h - 1 - x, hy, by omega, key x y hx hy⟩) (fun x y hx hy => ⟨h - 1 - y, x, by omega, hx, ?_⟩)
  · rw [key x y hx hy]
    exact pic_at ok hy (by show h - 1 - x < h; omega)
  · rw [key _ _ (by omega) hx]
    congr 1
    omega
def turnR : Nat → Rows → Rows
  | 0, rows => rows
  | k + 1, rows => turnR k (quarterR rows)
theorem turn_is : ∀ (k : Nat) {w h d : Nat} {rows : Rows}, Ok w h rows → 0 < w → 0 < h → Low d rows →
    ∃ w' h', (w' = w ∧ h' = h ∨ w' = h ∧ h' = w) ∧ Ie05.turn k (pic w h d rows) = pic w' h' d (turnR k rows) ∧ Ok w' h' (turnR k rows) ∧ Low d (turnR k rows)
  | 0, w, h, d, rows, ok, _, _, l => ⟨w, h, .inl ⟨rfl, rfl⟩, rfl, ok, l⟩
  | k + 1, w, h, d, rows, ok, hw, hh, l => by
    obtain ⟨e, l'⟩ := quarter_is ok hh l
    obtain ⟨w', h', e1, e2, ok', l''⟩ := turn_is k (quarterR_ok ok hh) hh hw l'
    refine ⟨w', h', ?_, ?_, ok', l''⟩
    · rcases e1 with ⟨a, b⟩ | ⟨a, b⟩
      · exact .inr ⟨a, b⟩
      · exact .inl ⟨a, b⟩
    · show Ie05.turn k (Ie05.quarter (pic w h d rows)) = _
      rw [e, e2]
      rfl
theorem sideways_is {w h d : Nat} {rows : Rows} (ok : Ok w h rows) (l : Low d rows) : Ie05.sideways (pic w h d rows) = pic w h d (rows.map List.reverse) ∧ Low d (rows.map List.reverse) := by
  refine of_perm (w' := w) (h' := h) ok l (map_rev_ok ok) (fun x y hx hy => ?_) (fun x y hx hy => ⟨w - 1 - x, y, by omega, hy, at2_map_rev ok hx hy⟩) (fun x y hx hy => ⟨w - 1 - x, y, by omega, hy, ?_⟩)
  · rw [at2_map_rev ok hx hy]
    exact pic_at ok (by show w - 1 - x < w; omega) hy
  · rw [at2_map_rev ok (by omega) hy]
    congr 1
    omega
theorem at2_rev {w h : Nat} {rows : Rows} (ok : Ok w h rows) {x y : Nat} (hy : y < h) : at2 rows.reverse x y = at2 rows x (h - 1 - y) := by
  unfold at2
  have : rows.reverse.getD y [] = rows.getD (h - 1 - y) [] := by
    simp only [List.getD]
    rw [List.getElem?_reverse (by rw [ok.len]; exact hy), ok.len]
  rw [this]
theorem rev_ok {w h : Nat} {rows : Rows} (ok : Ok w h rows) : Ok w h rows.reverse := ⟨by simp [ok.len], fun r hr => ok.row r (List.mem_reverse.mp hr)⟩
theorem upside_is {w h d : Nat} {rows : Rows} (ok : Ok w h rows) (l : Low d rows) : Ie05.upside (pic w h d rows) = pic w h d rows.reverse ∧ Low d rows.reverse := by
  refine of_perm (w' := w) (h' := h) ok l (rev_ok ok) (fun x y hx hy => ?_) (fun x y hx hy => ⟨x, h - 1 - y, hx, by omega, at2_rev ok hy⟩) (fun x y hx hy => ⟨x, h - 1 - y, hx, by omega, ?_⟩)
  · rw [at2_rev ok hy]
    exact pic_at ok hx (by show h - 1 - y < h; omega)
  · rw [at2_rev ok (by omega)]
    congr 1
    omega
/-- u cells from x on -/
def part {α : Type} (x u : Nat) (l : List α) : List α := (l.take (x + u)).drop x
def cutR (x y u v : Nat) (rows : Rows) : Rows := (part y v rows).map fun r => part x u r
theorem part_get {α : Type} {x u i : Nat} (l : List α) (hi : i < u) : (part x u l)[i]? = l[x + i]? := by
  unfold part
  rw [List.getElem?_drop, List.getElem?_take_of_lt (by omega)]
theorem part_len {α : Type} {x u : Nat} (l : List α) (h : x + u ≤ l.length) : (part x u l).length = u := by
  unfold part
  simp
  omega
theorem part_mem {α : Type} {x u : Nat} {l : List α} {a : α} (h : a ∈ part x u l) : a ∈ l := List.mem_of_mem_take (List.mem_of_mem_drop h)
theorem cutR_ok {w h x y u v : Nat} {rows : Rows} (ok : Ok w h rows) (hx : x + u ≤ w) (hy : y + v ≤ h) : Ok u v (cutR x y u v rows) := by
  refine ⟨by simp only [cutR, List.length_map]; exact part_len _ (by rw [ok.len]; exact hy), fun r hr => ?_⟩
  obtain ⟨q, hq, rfl⟩ := List.mem_map.mp hr
  exact part_len _ (by rw [ok.row q (part_mem hq)]; exact hx)
theorem cut_is {w h d x y u v : Nat} {rows : Rows} (ok : Ok w h rows) (hx : x + u ≤ w) (hy : y + v ≤ h) : Ie05.cut x y u v (pic w h d rows) = pic u v (lowD d (cutR x y u v rows)) (lowR d (cutR x y u v rows)) := by
  unfold Ie05.cut
  rw [of_is]
  have e : grid u v (fun i j => (pic w h d rows).at_ (x + i) (y + j)) = cutR x y u v rows := by
    rw [← grid_at2 (cutR_ok ok hx hy)]
    refine grid_congr fun i j hi hj => ?_
    rw [pic_at ok (by omega) (by omega)]
    have hj' : y + j < rows.length := by rw [ok.len]; omega
    simp only [at2, cutR, List.getD]
    rw [List.getElem?_map, part_get rows hj, List.getElem?_eq_getElem hj']
    simp [part_get _ hi]
  rw [e]
  rfl
end Pa

set_option maxRecDepth 100000
namespace Pa
/-! ### what a change makes, told over rows -/
structure Im where
  w : Nat
  h : Nat
  d : Nat
  rows : Rows
def Im.pic (i : Im) : Ie05.Pic := Pa.pic i.w i.h i.d i.rows
/-- what holds of a picture, but that d is not too large -/
structure Fair (i : Im) : Prop where
  ok : Ok i.w i.h i.rows
  w1 : 0 < i.w
  w2 : i.w ≤ 12
  h1 : 0 < i.h
  h2 : i.h ≤ 12
  d1 : 0 < i.d
  low : Low i.d i.rows
structure Good (i : Im) : Prop extends Fair i where
  d2 : i.d < 2 ^ 32
/-- as low as can be -/
def Im.lowest (w h d : Nat) (rows : Rows) : Im := ⟨w, h, lowD d rows, lowR d rows⟩
theorem lowest_fair {w h d : Nat} {rows : Rows} (ok : Ok w h rows) (w1 : 0 < w) (w2 : w ≤ 12) (h1 : 0 < h) (h2 : h ≤ 12) (d1 : 0 < d) : Fair (Im.lowest w h d rows) :=
  ⟨lowR_ok ok, w1, w2, h1, h2, lowD_pos rows d1, low_low rows d1⟩
theorem lowest_of {w h d : Nat} {rows : Rows} {f : Nat → Nat → Nat} (e : grid w h f = rows) : Ie05.Pic.of w h d f = (Im.lowest w h d rows).pic := by
  rw [of_is, e]
  rfl
/-- a picture of whole numbers -/
def Im.draw (w h : Nat) (rows : Rows) : Im := ⟨w, h, 1, rows⟩
theorem draw_good {w h : Nat} {rows : Rows} (ok : Ok w h rows) (w1 : 0 < w) (w2 : w ≤ 12) (h1 : 0 < h) (h2 : h ≤ 12) : Good (Im.draw w h rows) :=
  { ok := ok, w1 := w1, w2 := w2, h1 := h1, h2 := h2, d1 := Nat.one_pos, low := low_one rows, d2 := by show 1 < 2 ^ 32; decide }
/-! the three ways to another size -/
theorem resized_ok {wt : Nat → Nat → Nat → List Nat} {rows : Rows} {w h w' h' : Nat} (ok : Ok w h rows) (hh : 0 < h) (hw' : 0 < w') : Ok w' h' (resized wt rows w h w' h') := by
  rw [resized_is ok hh hw']
  exact grid_ok ..
def Im.sized (wt : Nat → Nat → Nat → List Nat) (a b : Nat) (i : Im) (w' h' : Nat) : Im := Im.lowest w' h' (i.d * a * b) (resized wt i.rows i.w i.h w' h')
theorem sized_fair {wt : Nat → Nat → Nat → List Nat} {a b : Nat} {i : Im} {w' h' : Nat} (g : Fair i) (ha : 0 < a) (hb : 0 < b) (w1 : 0 < w') (w2 : w' ≤ 12) (h1 : 0 < h') (h2 : h' ≤ 12) : Fair (i.sized wt a b w' h') :=
  lowest_fair (resized_ok g.ok g.h1 w1) w1 w2 h1 h2 (Nat.mul_pos (Nat.mul_pos g.d1 ha) hb)
theorem area_im {i : Im} {w' h' : Nat} (g : Fair i) (w1 : 0 < w') : Ie05.area w' h' i.pic = (i.sized areaW i.w i.h w' h').pic := area_is g.ok g.h1 w1
theorem nearest_im {i : Im} {w' h' : Nat} (g : Fair i) (w1 : 0 < w') : Ie05.nearest w' h' i.pic = (i.sized nearW 1 1 w' h').pic := by
  have e := nearest_is (d := i.d) (h' := h') g.ok g.w1 g.h1 w1
  unfold Im.sized
  rw [Nat.mul_one, Nat.mul_one]
  exact e
theorem between_im {i : Im} {w' h' : Nat} (g : Fair i) (w1 : 0 < w') (h1 : 0 < h') : Ie05.between w' h' i.pic = (i.sized betwW (2 * w') (2 * h') w' h').pic := between_is g.ok g.w1 g.h1 w1 h1
/-! turns, mirrors, cuts -/
def Im.turned (k : Nat) (i : Im) : Im := if k % 2 = 0 then ⟨i.w, i.h, i.d, turnR k i.rows⟩ else ⟨i.h, i.w, i.d, turnR k i.rows⟩
theorem turned_im : ∀ (k : Nat) {i : Im}, Fair i → Ie05.turn k i.pic = (i.turned k).pic ∧ Fair (i.turned k)
  | 0, i, g => ⟨rfl, g⟩
  | k + 1, i, g => by
    obtain ⟨e, l⟩ := quarter_is g.ok g.h1 g.low
    have g' : Fair ⟨i.h, i.w, i.d, quarterR i.rows⟩ := ⟨quarterR_ok g.ok g.h1, g.h1, g.h2, g.w1, g.w2, g.d1, l⟩
    obtain ⟨e2, f⟩ := turned_im k g'
    have e3 : (i.turned (k + 1)) = Im.turned k ⟨i.h, i.w, i.d, quarterR i.rows⟩ := by
      unfold Im.turned
      by_cases c : k % 2 = 0
      · rw [if_pos c, if_neg (by omega)]
        rfl
      · rw [if_neg c, if_pos (by omega)]
        rfl
    rw [e3]
    refine ⟨?_, f⟩
    show Ie05.turn k (Ie05.quarter i.pic) = _
    have e' : Ie05.quarter i.pic = (⟨i.h, i.w, i.d, quarterR i.rows⟩ : Im).pic := e
    rw [e', e2]
def Im.with (i : Im) (rows : Rows) : Im := ⟨i.w, i.h, i.d, rows⟩
theorem sideways_im {i : Im} (g : Fair i) : Ie05.sideways i.pic = (i.with (i.rows.map List.reverse)).pic ∧ Fair (i.with (i.rows.map List.reverse)) := by
  obtain ⟨e, l⟩ := sideways_is g.ok g.low
  exact ⟨e, map_rev_ok g.ok, g.w1, g.w2, g.h1, g.h2, g.d1, l⟩
theorem upside_im {i : Im} (g : Fair i) : Ie05.upside i.pic = (i.with i.rows.reverse).pic ∧ Fair (i.with i.rows.reverse) := by
  obtain ⟨e, l⟩ := upside_is g.ok g.low
  exact ⟨e, rev_ok g.ok, g.w1, g.w2, g.h1, g.h2, g.d1, l⟩
theorem cut_im {i : Im} {x y u v : Nat} (g : Fair i) (hu : 0 < u) (hv : 0 < v) (hx : x + u ≤ i.w) (hy : y + v ≤ i.h) :
    Ie05.cut x y u v i.pic = (Im.lowest u v i.d (cutR x y u v i.rows)).pic ∧ Fair (Im.lowest u v i.d (cutR x y u v i.rows)) :=
  ⟨cut_is g.ok hx hy, lowest_fair (cutR_ok g.ok hx hy) hu (by have := g.w2; omega) hv (by have := g.h2; omega) g.d1⟩
/-! borders -/
def borderR (l t r b f : Nat) (i : Im) : Rows := grid (l + i.w + r) (t + i.h + b) fun x y => if l ≤ x ∧ x < l + i.w ∧ t ≤ y ∧ y < t + i.h then at2 i.rows (x - l) (y - t) else f * i.d
theorem border_im {i : Im} {l t r b f : Nat} (g : Fair i) (hw : l + i.w + r ≤ 12) (hh : t + i.h + b ≤ 12) :
    Ie05.border l t r b f i.pic = (Im.lowest (l + i.w + r) (t + i.h + b) i.d (borderR l t r b f i)).pic ∧ Fair (Im.lowest (l + i.w + r) (t + i.h + b) i.d (borderR l t r b f i)) := by
  have w1 := g.w1
  have h1 := g.h1
  refine ⟨?_, lowest_fair (grid_ok ..) (by omega) hw (by omega) hh g.d1⟩
  apply lowest_of
  unfold borderR
  refine grid_congr fun x y hx hy => ?_
  show (if l ≤ x ∧ x < l + i.w ∧ t ≤ y ∧ y < t + i.h then i.pic.at_ (x - l) (y - t) else f * i.d) = _
  split
  · rename_i c
    exact pic_at g.ok (by omega) (by omega)
  · rfl
/-! leaned -/
def leanR (k : Nat) (i : Im) : Rows := grid i.w i.h fun x y => at2 i.rows ((x + i.w * (k * y + 1) - k * y) % i.w) y
theorem lean_back {w m x : Nat} (hx : x < w) : ((x + m) % w + w * (m + 1) - m) % w = x := by
  have h0 := Nat.div_add_mod (x + m) w
  have hq : (x + m) / w < m + 1 := by
    rw [Nat.div_lt_iff_lt_mul (by omega), Nat.add_mul, Nat.one_mul]
    have := Nat.le_mul_of_pos_right m (show 0 < w by omega)
    omega
  have e : (x + m) % w + w * (m + 1) - m = x + w * (m + 1 - (x + m) / w) := by
    rw [Nat.mul_sub]
    have h1 : w * ((x + m) / w) ≤ w * (m + 1) := Nat.mul_le_mul_left w (by omega)
    have h2 : m + 1 ≤ w * (m + 1) := Nat.le_mul_of_pos_left (m + 1) (show 0 < w by omega)
    omega
  rw [e, Nat.add_mul_mod_self_left, Nat.mod_eq_of_lt hx]
theorem lean_im {i : Im} {k : Nat} (g : Fair i) : Ie05.lean k i.pic = (i.with (leanR k i)).pic ∧ Fair (i.with (leanR k i)) := by
  have w1 := g.w1
  have key : ∀ x y, x < i.w → y < i.h → at2 (leanR k i) x y = at2 i.rows ((x + i.w * (k * y + 1) - k * y) % i.w) y := fun x y hx hy => at2_grid hx hy
  have h := of_perm (w' := i.w) (h' := i.h) (R := leanR k i) (f := fun x y => i.pic.at_ ((x + i.w * (k * y + 1) - k * y) % i.w) y) g.ok g.low (grid_ok _ _ _ : Ok i.w i.h (leanR k i)) (fun x y hx hy => ?_) (fun x y hx hy => ⟨_, y, Nat.mod_lt _ w1, hy, key x y hx hy⟩) (fun x y hx hy => ⟨(x + k * y) % i.w, y, Nat.mod_lt _ w1, hy, ?_⟩)
  · exact ⟨h.1, grid_ok _ _ _, g.w1, g.w2, g.h1, g.h2, g.d1, h.2⟩
  · rw [key x y hx hy]
    exact pic_at g.ok (Nat.mod_lt _ w1) hy
  · rw [key _ _ (Nat.mod_lt _ w1) hy, lean_back hx]
/-! rounded -/
def roundR (i : Im) : Rows := i.rows.map fun r => r.map fun n => Ie05.near n i.d
theorem round_ok {i : Im} (g : Fair i) : Ok i.w i.h (roundR i) := by
  refine ⟨by simp [roundR, g.ok.len], fun r hr => ?_⟩
  obtain ⟨q, hq, rfl⟩ := List.mem_map.mp hr
  simp [g.ok.row q hq]
theorem round_im {i : Im} (g : Fair i) : (⟨i.pic.w, i.pic.h, 1, i.pic.v.map fun n => Ie05.near n i.pic.d⟩ : Ie05.Pic) = (Im.draw i.w i.h (roundR i)).pic ∧ Good (Im.draw i.w i.h (roundR i)) := by
  refine ⟨?_, draw_good (round_ok g) g.w1 g.w2 g.h1 g.h2⟩
  show (⟨i.w, i.h, 1, i.rows.flatten.map fun n => Ie05.near n i.d⟩ : Ie05.Pic) = ⟨i.w, i.h, 1, (roundR i).flatten⟩
  unfold roundR
  rw [List.map_flatten]
end Pa

set_option maxRecDepth 100000
namespace Pa
/-! ### the calls, one behind another -/
def ci (l : List Nat) : List Int := l.map fun (n : Nat) => (n : Int)
theorem ci_toNat (l : List Nat) : (ci l).map Int.toNat = l := by
  simp [ci, Function.comp_def]
theorem ci_drop (n : Nat) (l : List Nat) : (ci l).drop n = ci (l.drop n) := by simp [ci]
theorem ci_take (n : Nat) (l : List Nat) : (ci l).take n = ci (l.take n) := by simp [ci]
theorem ci_len (l : List Nat) : (ci l).length = l.length := by simp [ci]
theorem ci_of : ∀ (l : List Int), (∀ x ∈ l, 0 ≤ x) → l = ci (l.map Int.toNat)
  | [], _ => rfl
  | a :: l, h => by
    have ha := h a List.mem_cons_self
    have e := ci_of l fun x hx => h x (List.mem_cons_of_mem _ hx)
    show a :: l = ((a.toNat : Nat) : Int) :: ci (l.map Int.toNat)
    rw [← e]
    congr 1
    omega
/-- a call's numbers -/
def enc : Ie05.Call → List Nat
  | .picture w h l => 0 :: w :: h :: l.length :: l
  | .area w h => [1, w, h]
  | .nearest w h => [2, w, h]
  | .between w h => [3, w, h]
  | .turn k => [4, k]
  | .mirror k => [5, k]
  | .cut x y u v => [6, x, y, u, v]
  | .border l t r b f => [7, l, t, r, b, f]
  | .lean k => [8, k]
  | .round => [9]
  | .undo => [10]
  | .now => [11]
  | .cell x y => [12, x, y]
  | .told => [13]
/-- the rest of the list tells these calls -/
def Rest (l : List Nat) (raw : List (List (List Int))) : Prop := ∃ f, PyFlat.calls PyIe05.shape f (ci l) = some raw
theorem rest_nil {raw : List (List (List Int))} (h : Rest [] raw) : raw = [] := by
  obtain ⟨f, h⟩ := h
  cases f <;> exact (Option.some.inj h).symm
theorem rest_cons {p : Nat} {r : List Nat} {raw : List (List (List Int))} (h : Rest (p :: r) raw) :
    ∃ c t raw', raw = c :: raw' ∧ PyFlat.call PyIe05.shape ((p : Int) :: ci r) = some (c, t) ∧ ∃ f, PyFlat.calls PyIe05.shape f t = some raw' := by
  obtain ⟨f, h⟩ := h
  cases f with
  | zero => cases h
  | succ f =>
    have h : (match PyFlat.call PyIe05.shape ((p : Int) :: ci r) with
      | none => none
      | some (c, t) => match PyFlat.calls PyIe05.shape f t with
        | none => none
        | some cs => some (c :: cs)) = some raw := h
    cases e : PyFlat.call PyIe05.shape ((p : Int) :: ci r) with
    | none => rw [e] at h; cases h
    | some ct =>
      obtain ⟨c, t⟩ := ct
      rw [e] at h
      dsimp only at h
      cases e2 : PyFlat.calls PyIe05.shape f t with
      | none => rw [e2] at h; cases h
      | some cs =>
        rw [e2] at h
        exact ⟨c, t, cs, (Option.some.inj h).symm, rfl, f, e2⟩
theorem call_flat {n : Nat} {p : Nat} {r : List Nat} {c : List (List Int)} {t : List Int} (hs : PyIe05.shape (p : Int) = some (n, 0)) (h : PyFlat.call PyIe05.shape ((p : Int) :: ci r) = some (c, t)) :
    n ≤ r.length ∧ c = [(p : Int) :: ci (r.take n)] ∧ t = ci (r.drop n) := by
  unfold PyFlat.call at h
  dsimp only at h
  rw [hs] at h
  dsimp only at h
  split at h
  · cases h
  · rename_i hl
    rw [ci_len] at hl
    unfold PyFlat.rows at h
    dsimp only at h
    have h := Option.some.inj h
    rw [ci_take, ci_drop] at h
    injection h with h1 h2
    exact ⟨by omega, h1.symm, h2.symm⟩
theorem call_row {p : Nat} {r : List Nat} {c : List (List Int)} {t : List Int} (hs : PyIe05.shape (p : Int) = some (2, 1)) (h : PyFlat.call PyIe05.shape ((p : Int) :: ci r) = some (c, t)) :
    ∃ (w k : Nat) (cells t' : List Nat), r = w :: k :: cells.length :: (cells ++ t') ∧ c = [[(p : Int), (w : Int), (k : Int)], ci cells] ∧ t = ci t' := by
  unfold PyFlat.call at h
  dsimp only at h
  rw [hs] at h
  dsimp only at h
  split at h
  · cases h
  · rename_i hl
    rw [ci_len] at hl
    match r, hl with
    | [], hl => simp at hl
    | [_], hl => simp at hl
    | w :: k :: r, _ =>
      have h : (match PyFlat.rows 1 (ci r) with
        | none => none
        | some (xs, t) => some (((p : Int) :: [(w : Int), (k : Int)]) :: xs, t)) = some (c, t) := h
      have hrow : PyFlat.rows 1 (ci r) = (match PyFlat.row (ci r) with
        | none => none
        | some (x, s) => some ([x], s)) := by
        unfold PyFlat.rows
        cases PyFlat.row (ci r) with
        | none => rfl
        | some q => rfl
      rw [hrow] at h
      match r with
      | [] => cases h
      | n :: r =>
        have hr : PyFlat.row (ci (n :: r)) = if 0 ≤ (n : Int) ∧ (n : Int).toNat ≤ (ci r).length then some ((ci r).take (n : Int).toNat, (ci r).drop (n : Int).toNat) else none := rfl
        rw [hr] at h
        split at h
        · cases h
        · rename_i xs t0 hx
          split at hx
          · cases hx
          · rename_i x s hx2
            split at hx2
            · rename_i hc
              have hx := Option.some.inj hx
              have hx2 := Option.some.inj hx2
              have h := Option.some.inj h
              rw [Int.toNat_natCast, ci_len] at hc
              rw [Int.toNat_natCast, ci_take, ci_drop] at hx2
              injection hx2 with g1 g2
              injection hx with g3 g4
              injection h with g5 g6
              refine ⟨w, k, r.take n, r.drop n, ?_, ?_, ?_⟩
              · rw [List.take_append_drop, List.length_take, Nat.min_eq_left hc.2]
              · rw [← g5, ← g3, ← g1]
              · rw [← g6, ← g4, ← g2]
            · cases hx2
theorem nat_ok {x : Nat} (h : x < 2 ^ 32) : Ie05Neutral.nat (x : Int) = true := by
  unfold Ie05Neutral.nat
  simp
  omega
theorem callOf_ci {l : List Nat} (h : ∀ x ∈ l, x < 2 ^ 32) : Ie05Neutral.callOf (ci l) = Ie05Neutral.callIn l := by
  unfold Ie05Neutral.callOf
  have e : (ci l).all Ie05Neutral.nat = true := by
    rw [List.all_eq_true]
    intro x hx
    obtain ⟨n, hn, rfl⟩ := List.mem_map.mp hx
    exact nat_ok (h n hn)
  rw [e, if_neg (by decide), ci_toNat]
theorem step_ci {l : List Nat} {cl : Ie05.Call} (h : ∀ x ∈ l, x < 2 ^ 32) (e : Ie05Neutral.callIn l = some cl) (s : Ie05.St) : Ie05Neutral.step s (ci l) = Ie05.step s cl := by
  unfold Ie05Neutral.step
  rw [callOf_ci h, e]
/-- one call of the rest -/
theorem turn_of {p : Nat} {r : List Nat} {raw : List (List (List Int))} (hb : ∀ x ∈ p :: r, x < 2 ^ 32) (h : Rest (p :: r) raw) :
    ∃ (cl : Ie05.Call) (c : List (List Int)) (raw' : List (List (List Int))) (t : List Nat), raw = c :: raw' ∧ p :: r = enc cl ++ t ∧ Rest t raw' ∧ ∀ s, Ie05Neutral.step s ((PyIe05.whole c).headD []) = Ie05.step s cl := by
  obtain ⟨c, t, raw', rfl, hc, f, hf⟩ := rest_cons h
  have flat : ∀ n, PyIe05.shape (p : Int) = some (n, 0) → ∃ t', n ≤ r.length ∧ c = [ci (p :: r.take n)] ∧ r = r.take n ++ t' ∧ Rest t' raw' := by
    intro n hs
    obtain ⟨h1, h2, h3⟩ := call_flat hs hc
    exact ⟨r.drop n, h1, h2, (List.take_append_drop n r).symm, f, by rw [← h3]; exact hf⟩
  have go : ∀ (n : Nat) (cl : Ie05.Call) (t' : List Nat), c = [ci (p :: r.take n)] → r = r.take n ++ t' → Rest t' raw' → (PyIe05.whole [ci (p :: r.take n)]).headD [] = ci (p :: r.take n) → p :: r.take n = enc cl → Ie05Neutral.callIn (p :: r.take n) = some cl →
      ∃ (cl : Ie05.Call) (c0 : List (List Int)) (raw0 : List (List (List Int))) (t : List Nat), c :: raw' = c0 :: raw0 ∧ p :: r = enc cl ++ t ∧ Rest t raw0 ∧ ∀ s, Ie05Neutral.step s ((PyIe05.whole c0).headD []) = Ie05.step s cl := by
    intro n cl t' e1 e2 e3 e4 e5 e6
    refine ⟨cl, c, raw', t', rfl, ?_, e3, fun s => ?_⟩
    · rw [← e5, List.cons_append, ← e2]
    · rw [e1, e4]
      refine step_ci (fun x hx => hb x ?_) e6 s
      rcases List.mem_cons.mp hx with rfl | hx
      · exact List.mem_cons_self
      · exact List.mem_cons_of_mem _ (List.mem_of_mem_take hx)
  have p14 : p < 14 := by
    by_cases q : p < 14
    · exact q
    · exfalso
      have : PyIe05.shape (p : Int) = none := by
        unfold PyIe05.shape
        repeat rw [if_neg (by omega)]
      unfold PyFlat.call at hc
      dsimp only at hc
      rw [this] at hc
      cases hc
  match p, p14 with
  | 0, _ =>
    obtain ⟨w, k, cells, t', rfl, rfl, rfl⟩ := call_row rfl hc
    refine ⟨.picture w k cells, _, raw', t', rfl, rfl, ⟨f, hf⟩, fun s => ?_⟩
    have e : (PyIe05.whole [[((0 : Nat) : Int), (w : Int), (k : Int)], ci cells]).headD [] = ci (0 :: w :: k :: cells) := rfl
    rw [e]
    refine step_ci (fun x hx => hb x ?_) rfl s
    simp only [List.mem_cons, List.mem_append] at hx ⊢
    rcases hx with hx | hx | hx | hx
    · exact .inl hx
    · exact .inr (.inl hx)
    · exact .inr (.inr (.inl hx))
    · exact .inr (.inr (.inr (.inr (.inl hx))))
  | 1, _ =>
    obtain ⟨t', hl, e1, e2, e3⟩ := flat 2 rfl
    match r, hl with
    | a :: b :: r, _ => exact go 2 (.area a b) t' e1 e2 e3 rfl rfl rfl
  | 2, _ =>
    obtain ⟨t', hl, e1, e2, e3⟩ := flat 2 rfl
    match r, hl with
    | a :: b :: r, _ => exact go 2 (.nearest a b) t' e1 e2 e3 rfl rfl rfl
  | 3, _ =>
    obtain ⟨t', hl, e1, e2, e3⟩ := flat 2 rfl
    match r, hl with
    | a :: b :: r, _ => exact go 2 (.between a b) t' e1 e2 e3 rfl rfl rfl
  | 4, _ =>
    obtain ⟨t', hl, e1, e2, e3⟩ := flat 1 rfl
    match r, hl with
    | a :: r, _ => exact go 1 (.turn a) t' e1 e2 e3 rfl rfl rfl
  | 5, _ =>
    obtain ⟨t', hl, e1, e2, e3⟩ := flat 1 rfl
    match r, hl with
    | a :: r, _ => exact go 1 (.mirror a) t' e1 e2 e3 rfl rfl rfl
  | 6, _ =>
    obtain ⟨t', hl, e1, e2, e3⟩ := flat 4 rfl
    match r, hl with
    | a :: b :: c :: d :: r, _ => exact go 4 (.cut a b c d) t' e1 e2 e3 rfl rfl rfl
  | 7, _ =>
    obtain ⟨t', hl, e1, e2, e3⟩ := flat 5 rfl
    match r, hl with
    | a :: b :: c :: d :: e :: r, _ => exact go 5 (.border a b c d e) t' e1 e2 e3 rfl rfl rfl
  | 8, _ =>
    obtain ⟨t', hl, e1, e2, e3⟩ := flat 1 rfl
    match r, hl with
    | a :: r, _ => exact go 1 (.lean a) t' e1 e2 e3 rfl rfl rfl
  | 9, _ =>
    obtain ⟨t', hl, e1, e2, e3⟩ := flat 0 rfl
    exact go 0 .round t' e1 e2 e3 rfl rfl rfl
  | 10, _ =>
    obtain ⟨t', hl, e1, e2, e3⟩ := flat 0 rfl
    exact go 0 .undo t' e1 e2 e3 rfl rfl rfl
  | 11, _ =>
    obtain ⟨t', hl, e1, e2, e3⟩ := flat 0 rfl
    exact go 0 .now t' e1 e2 e3 rfl rfl rfl
  | 12, _ =>
    obtain ⟨t', hl, e1, e2, e3⟩ := flat 2 rfl
    match r, hl with
    | a :: b :: r, _ => exact go 2 (.cell a b) t' e1 e2 e3 rfl rfl rfl
  | 13, _ =>
    obtain ⟨t', hl, e1, e2, e3⟩ := flat 0 rfl
    exact go 0 .told t' e1 e2 e3 rfl rfl rfl
/-- what the calls answer, from a state -/
def due (s : Ie05.St) (raw : List (List (List Int))) : List Int := PyFlat.told (PyFlat.played (fun s c => Ie05Neutral.step s (c.headD [])) s (raw.map PyIe05.whole))
theorem due_nil (s : Ie05.St) : due s [] = [] := rfl
theorem due_cons (s : Ie05.St) (c : List (List Int)) (raw : List (List (List Int))) {cl : Ie05.Call} (h : ∀ s, Ie05Neutral.step s ((PyIe05.whole c).headD []) = Ie05.step s cl) :
    due s (c :: raw) = (((Ie05.step s cl).2.length : Nat) : Int) :: ((Ie05.step s cl).2 ++ due (Ie05.step s cl).1 raw) := by
  have e : due s (c :: raw) = PyFlat.told ((Ie05Neutral.step s ((PyIe05.whole c).headD [])).2 :: PyFlat.played (fun s c => Ie05Neutral.step s (c.headD [])) (Ie05Neutral.step s ((PyIe05.whole c).headD [])).1 (raw.map PyIe05.whole)) := rfl
  rw [e, h s]
  rfl
/-- what is asked of the list -/
theorem asked_raw {l : List Nat} (h : PyIe05.answers_asked (ci l) = true) : ∃ raw, Rest l raw ∧ raw.length ≤ 40 ∧ PyIe05.answers (ci l) = due Ie05.init raw := by
  unfold PyIe05.answers_asked at h
  cases e : PyFlat.calls PyIe05.shape (ci l).length (ci l) with
  | none => rw [e] at h; cases h
  | some raw =>
    rw [e] at h
    simp only [Bool.and_eq_true] at h
    refine ⟨raw, ⟨_, e⟩, ?_, ?_⟩
    · have := h.1.1.1.2
      unfold PyFlat.atMost at this
      simpa using this
    · unfold PyIe05.answers PyIe05.calls
      rw [e]
      rfl
end Pa

set_option maxRecDepth 100000
namespace Pa
/-! ### one call, told over rows -/
inductive Ch where
  | no (z : Int)
  | im (i : Im)
  | other
def Im.mirrored (k : Nat) (i : Im) : Im := i.with (if k = 0 then i.rows.map List.reverse else i.rows.reverse)
/-- what a change makes of a picture, or why it is refused -/
def change (i : Im) : Ie05.Call → Ch
  | .area w h => if Ie05.sizeOk w h = false then .no (-1) else .im (i.sized areaW i.w i.h w h)
  | .nearest w h => if Ie05.sizeOk w h = false then .no (-1) else .im (i.sized nearW 1 1 w h)
  | .between w h => if Ie05.sizeOk w h = false then .no (-1) else .im (i.sized betwW (2 * w) (2 * h) w h)
  | .turn k => if 3 < k then .no (-2) else .im (i.turned k)
  | .mirror k => if 1 < k then .no (-2) else .im (i.mirrored k)
  | .cut x y u v => if u < 1 ∨ v < 1 ∨ i.w < x + u ∨ i.h < y + v then .no (-1) else .im (Im.lowest u v i.d (cutR x y u v i.rows))
  | .border l t r b f => if Ie05.sizeOk (l + i.w + r) (t + i.h + b) = false then .no (-1) else if 65535 < f then .no (-2) else .im (Im.lowest (l + i.w + r) (t + i.h + b) i.d (borderR l t r b f i))
  | .lean k => if 11 < k then .no (-2) else .im (i.with (leanR k i))
  | .round => .im (Im.draw i.w i.h (roundR i))
  | _ => .other
def st (i : Im) (olds : List Im) : Ie05.St := ⟨i.pic, olds.map Im.pic⟩
theorem size_ok {w h : Nat} (c : ¬ Ie05.sizeOk w h = false) : 0 < w ∧ w ≤ 12 ∧ 0 < h ∧ h ≤ 12 := by
  unfold Ie05.sizeOk Ie05.MOST at c
  simp at c
  omega
theorem change_no {i : Im} {cl : Ie05.Call} {z : Int} (h : change i cl = .no z) (olds : List Im) : Ie05.step (st i olds) cl = (st i olds, [z]) := by
  cases cl <;> unfold change at h <;> dsimp only at h
  case area w k => split at h <;> first | (cases h; rename_i c; exact if_pos c) | cases h
  case nearest w k => split at h <;> first | (cases h; rename_i c; exact if_pos c) | cases h
  case between w k => split at h <;> first | (cases h; rename_i c; exact if_pos c) | cases h
  case turn k => split at h <;> first | (cases h; rename_i c; exact if_pos c) | cases h
  case mirror k => split at h <;> first | (cases h; rename_i c; exact if_pos c) | cases h
  case cut x y u v => split at h <;> first | (cases h; rename_i c; exact if_pos c) | cases h
  case lean k => split at h <;> first | (cases h; rename_i c; exact if_pos c) | cases h
  case border l t r b f =>
    split at h
    · cases h
      rename_i c
      exact if_pos c
    · rename_i c
      split at h
      · cases h
        rename_i c2
        exact (if_neg c).trans (if_pos c2)
      · cases h
  all_goals cases h
theorem change_im {i n : Im} {cl : Ie05.Call} (g : Good i) (h : change i cl = .im n) (olds : List Im) : Fair n ∧ Ie05.step (st i olds) cl = Ie05.become (st i olds) n.pic := by
  have gf := g.toFair
  cases cl <;> unfold change at h <;> dsimp only at h
  case area w k =>
    split at h
    · cases h
    · rename_i c
      cases h
      obtain ⟨a1, a2, a3, a4⟩ := size_ok c
      refine ⟨sized_fair gf g.w1 g.h1 a1 a2 a3 a4, ?_⟩
      refine (if_neg c).trans ?_
      rw [← area_im gf a1]
      rfl
  case nearest w k =>
    split at h
    · cases h
    · rename_i c
      cases h
      obtain ⟨a1, a2, a3, a4⟩ := size_ok c
      refine ⟨sized_fair gf Nat.one_pos Nat.one_pos a1 a2 a3 a4, ?_⟩
      refine (if_neg c).trans ?_
      rw [← nearest_im gf a1]
      rfl
  case between w k =>
    split at h
    · cases h
    · rename_i c
      cases h
      obtain ⟨a1, a2, a3, a4⟩ := size_ok c
      refine ⟨sized_fair gf (by omega) (by omega) a1 a2 a3 a4, ?_⟩
      refine (if_neg c).trans ?_
      rw [← between_im gf a1 a3]
      rfl
  case turn k =>
    split at h
    · cases h
    · rename_i c
      cases h
      obtain ⟨e, f⟩ := turned_im k gf
      refine ⟨f, (if_neg c).trans ?_⟩
      rw [← e]
      rfl
  case mirror k =>
    split at h
    · cases h
    · rename_i c
      cases h
      unfold Im.mirrored
      by_cases z : k = 0
      · obtain ⟨e, f⟩ := sideways_im gf
        rw [if_pos z]
        refine ⟨f, (if_neg c).trans ?_⟩
        rw [if_pos z, ← e]
        rfl
      · obtain ⟨e, f⟩ := upside_im gf
        rw [if_neg z]
        refine ⟨f, (if_neg c).trans ?_⟩
        rw [if_neg z, ← e]
        rfl
  case cut x y u v =>
    split at h
    · cases h
    · rename_i c
      cases h
      obtain ⟨e, f⟩ := cut_im (x := x) (y := y) (u := u) (v := v) gf (by omega) (by omega) (by omega) (by omega)
      refine ⟨f, (if_neg c).trans ?_⟩
      rw [← e]
      rfl
  case border l t r b f =>
    split at h
    · cases h
    · rename_i c
      split at h
      · cases h
      · rename_i c2
        cases h
        obtain ⟨a1, a2, a3, a4⟩ := size_ok c
        obtain ⟨e, q⟩ := border_im (f := f) gf a2 a4
        refine ⟨q, (if_neg c).trans ((if_neg c2).trans ?_)⟩
        rw [← e]
        rfl
  case lean k =>
    split at h
    · cases h
    · rename_i c
      cases h
      obtain ⟨e, f⟩ := lean_im (k := k) gf
      refine ⟨f, (if_neg c).trans ?_⟩
      rw [← e]
      rfl
  case round =>
    cases h
    obtain ⟨e, f⟩ := round_im gf
    refine ⟨f.toFair, ?_⟩
    rw [← e]
    rfl
  all_goals cases h
theorem become_no {i n : Im} {olds : List Im} (h : 2 ^ 32 ≤ n.d) : Ie05.become (st i olds) n.pic = (st i olds, [-9]) := if_pos h
theorem become_yes {i n : Im} {olds : List Im} (h : ¬ 2 ^ 32 ≤ n.d) : Ie05.become (st i olds) n.pic = (st n ((i :: olds).take 16), [(n.w : Int), (n.h : Int), (n.d : Int)]) := by
  refine (if_neg h).trans ?_
  unfold st
  rw [List.map_take]
  rfl
/-! the other calls -/
theorem picture_no1 {i : Im} {olds : List Im} {w h : Nat} {l : List Nat} (c : Ie05.sizeOk w h = false ∨ l.length ≠ w * h) : Ie05.step (st i olds) (.picture w h l) = (st i olds, [-1]) := if_pos c
theorem picture_no2 {i : Im} {olds : List Im} {w h : Nat} {l : List Nat} (c : ¬ (Ie05.sizeOk w h = false ∨ l.length ≠ w * h)) (c2 : (l.all fun x => decide (x ≤ 65535)) = false) : Ie05.step (st i olds) (.picture w h l) = (st i olds, [-2]) := (if_neg c).trans (if_pos c2)
theorem picture_yes {i : Im} {olds : List Im} {w h : Nat} {l : List Nat} {rows : Rows} (c : ¬ (Ie05.sizeOk w h = false ∨ l.length ≠ w * h)) (c2 : ¬ (l.all fun x => decide (x ≤ 65535)) = false) (e : rows.flatten = l) :
    Ie05.step (st i olds) (.picture w h l) = (st (Im.draw w h rows) [], [(w : Int), (h : Int)]) := by
  refine (if_neg c).trans ((if_neg c2).trans ?_)
  unfold st Im.pic pic Im.draw
  rw [e]
  rfl
theorem undo_no {i : Im} : Ie05.step (st i []) .undo = (st i [], [-4]) := rfl
theorem undo_yes {i o : Im} {olds : List Im} : Ie05.step (st i (o :: olds)) .undo = (st o olds, [(o.w : Int), (o.h : Int), (o.d : Int)]) := rfl
theorem now_is {i : Im} {olds : List Im} : Ie05.step (st i olds) .now = (st i olds, ci (i.w :: i.h :: i.d :: i.rows.flatten)) := rfl
theorem cell_no {i : Im} {olds : List Im} {x y : Nat} (c : i.w ≤ x ∨ i.h ≤ y) : Ie05.step (st i olds) (.cell x y) = (st i olds, [-1]) := by
  show (st i olds, if i.w ≤ x ∨ i.h ≤ y then _ else _) = _
  rw [if_pos c]
theorem cell_yes {i : Im} {olds : List Im} {x y : Nat} (g : Good i) (c : ¬ (i.w ≤ x ∨ i.h ≤ y)) :
    Ie05.step (st i olds) (.cell x y) = (st i olds, ci [at2 i.rows x y / Nat.gcd (at2 i.rows x y) i.d, i.d / Nat.gcd (at2 i.rows x y) i.d, Ie05.near (at2 i.rows x y) i.d]) := by
  have e : i.pic.at_ x y = at2 i.rows x y := pic_at g.ok (by omega) (by omega)
  show (st i olds, if i.w ≤ x ∨ i.h ≤ y then _ else Ie05.ints [i.pic.at_ x y / Nat.gcd (i.pic.at_ x y) i.d, i.d / Nat.gcd (i.pic.at_ x y) i.d, Ie05.near (i.pic.at_ x y) i.d]) = _
  rw [if_neg c, e]
  rfl
theorem told_is {i : Im} {olds : List Im} : Ie05.step (st i olds) .told = (st i olds, ci [i.w, i.h, i.rows.flatten.sum / Nat.gcd i.rows.flatten.sum (i.d * (i.w * i.h)), i.d * (i.w * i.h) / Nat.gcd i.rows.flatten.sum (i.d * (i.w * i.h)), Ie05.near i.rows.flatten.sum (i.d * (i.w * i.h))]) := by
  have e : Ie05.sum i.rows.flatten = i.rows.flatten.sum := sum_eq _
  rw [← e]
  rfl
end Pa

set_option maxRecDepth 100000
namespace Pa
/-! ### a border, as the program lays it -/
def linesR (c w h : Nat) : Rows := (List.range h).map fun _ => List.replicate w c
def midR (c l r : Nat) (rows : Rows) : Rows := rows.map fun q => List.replicate l c ++ q ++ List.replicate r c
def bordL (l t r b c W : Nat) (rows : Rows) : Rows := linesR c W t ++ midR c l r rows ++ linesR c W b
theorem linesR_len (c w h : Nat) : (linesR c w h).length = h := by simp [linesR]
theorem linesR_row {c w h : Nat} {q : List Nat} (hq : q ∈ linesR c w h) : q = List.replicate w c := by
  obtain ⟨_, _, rfl⟩ := List.mem_map.mp hq
  rfl
theorem bordL_ok {w h l t r b c : Nat} {rows : Rows} (ok : Ok w h rows) : Ok (l + w + r) (t + h + b) (bordL l t r b c (l + w + r) rows) := by
  refine ⟨by simp [bordL, linesR_len, midR, ok.len]; omega, fun q hq => ?_⟩
  unfold bordL at hq
  rcases List.mem_append.mp hq with hq | hq
  · rcases List.mem_append.mp hq with hq | hq
    · rw [linesR_row hq, List.length_replicate]
    · obtain ⟨z, hz, rfl⟩ := List.mem_map.mp hq
      simp [ok.row z hz]
      omega
  · rw [linesR_row hq, List.length_replicate]
theorem getD_rep {n c x : Nat} (h : x < n) : (List.replicate n c).getD x 0 = c := by
  simp [List.getD, List.getElem?_replicate, h]
theorem getD_of {l : Rows} {y : Nat} {q : List Nat} (e : l[y]? = some q) : l.getD y [] = q := by
  rw [List.getD, e]
  rfl
theorem getD_linesR {c w h y : Nat} (hy : y < h) : (linesR c w h)[y]? = some (List.replicate w c) := by
  unfold linesR
  rw [List.getElem?_map, List.getElem?_range hy]
  rfl
theorem bordL_at {w h l t r b c : Nat} {rows : Rows} (ok : Ok w h rows) {x y : Nat} (hx : x < l + w + r) (hy : y < t + h + b) :
    at2 (bordL l t r b c (l + w + r) rows) x y = if l ≤ x ∧ x < l + w ∧ t ≤ y ∧ y < t + h then at2 rows (x - l) (y - t) else c := by
  have hm : (midR c l r rows).length = h := by simp [midR, ok.len]
  have ht := linesR_len c (l + w + r) t
  unfold at2 bordL
  by_cases c1 : y < t
  · have e : (linesR c (l + w + r) t ++ midR c l r rows ++ linesR c (l + w + r) b)[y]? = some (List.replicate (l + w + r) c) := by
      rw [List.append_assoc, List.getElem?_append_left (by omega)]
      exact getD_linesR c1
    rw [getD_of e, if_neg (by omega)]
    exact getD_rep hx
  · by_cases c2 : y < t + h
    · have hr : y - t < rows.length := by rw [ok.len]; omega
      have e : (linesR c (l + w + r) t ++ midR c l r rows ++ linesR c (l + w + r) b)[y]? = some (List.replicate l c ++ rows[y - t] ++ List.replicate r c) := by
        rw [List.append_assoc, List.getElem?_append_right (by omega), List.getElem?_append_left (by omega), ht]
        unfold midR
        rw [List.getElem?_map, List.getElem?_eq_getElem hr]
        rfl
      have hl : rows[y - t].length = w := ok.row _ (List.getElem_mem hr)
      have e2 : rows.getD (y - t) [] = rows[y - t] := by simp [List.getD, List.getElem?_eq_getElem hr]
      rw [getD_of e, e2]
      show (List.replicate l c ++ rows[y - t] ++ List.replicate r c).getD x 0 = _
      by_cases c3 : x < l
      · rw [if_neg (by omega), List.getD, List.append_assoc, List.getElem?_append_left (by simp; omega)]
        exact getD_rep c3
      · by_cases c4 : x < l + w
        · rw [if_pos (by omega), List.getD, List.append_assoc, List.getElem?_append_right (by simp; omega), List.getElem?_append_left (by simp; omega), List.length_replicate]
          rfl
        · rw [if_neg (by omega), List.getD, List.getElem?_append_right (by simp; omega)]
          simp only [List.length_append, List.length_replicate, hl]
          exact getD_rep (by omega)
    · have e : (linesR c (l + w + r) t ++ midR c l r rows ++ linesR c (l + w + r) b)[y]? = some (List.replicate (l + w + r) c) := by
        rw [List.getElem?_append_right (by simp [hm, ht]; omega), List.length_append, hm, ht]
        exact getD_linesR (by omega)
      rw [getD_of e, if_neg (by omega)]
      exact getD_rep hx
theorem bordL_is {i : Im} {l t r b f : Nat} (g : Fair i) : borderR l t r b f i = bordL l t r b (f * i.d) (l + i.w + r) i.rows := by
  rw [← grid_at2 (bordL_ok (l := l) (t := t) (r := r) (b := b) (c := f * i.d) g.ok)]
  unfold borderR
  exact grid_congr fun x y hx hy => (bordL_at g.ok hx hy).symm
theorem bordL_low {i : Im} {l t r b c W : Nat} (g : Fair i) : Low i.d (bordL l t r b c W i.rows) := by
  have h := g.low
  unfold Low at h ⊢
  have key : gcdR i.d (bordL l t r b c W i.rows) ∣ gcdR i.d i.rows := by
    have h1 := (dvd_foldl_gcd (l := (bordL l t r b c W i.rows).flatten) (d := i.d) (k := gcdR i.d (bordL l t r b c W i.rows))).mp (by rw [← gcdR_flat]; exact Nat.dvd_refl _)
    rw [gcdR_flat i.d i.rows]
    refine dvd_foldl_gcd.mpr ⟨h1.1, fun x hx => h1.2 x ?_⟩
    obtain ⟨q, hq, hx⟩ := List.mem_flatten.mp hx
    refine List.mem_flatten.mpr ⟨List.replicate l c ++ q ++ List.replicate r c, ?_, ?_⟩
    · unfold bordL
      exact List.mem_append_left _ (List.mem_append_right _ (List.mem_map.mpr ⟨q, hq, rfl⟩))
    · exact List.mem_append_left _ (List.mem_append_right _ hx)
  rw [h] at key
  exact Nat.dvd_one.mp key
theorem bordL_im {i : Im} {l t r b f : Nat} (g : Fair i) : Im.lowest (l + i.w + r) (t + i.h + b) i.d (borderR l t r b f i) = ⟨l + i.w + r, t + i.h + b, i.d, bordL l t r b (f * i.d) (l + i.w + r) i.rows⟩ := by
  rw [bordL_is g]
  unfold Im.lowest
  rw [(low_id (bordL_low g)).1, (low_id (bordL_low g)).2]
/-! ### leaned, row by row -/
def moved (r : List Nat) (m : Nat) : List Nat := r.drop (r.length - m % r.length) ++ r.take (r.length - m % r.length)
def leanL (k : Nat) (rows : Rows) : Rows := (List.range rows.length).map fun y => moved (rows.getD y []) (k * y)
theorem lean_ix {w m x : Nat} (hw : 0 < w) (hx : x < w) : (x + w * (m + 1) - m) % w = if x < m % w then w - m % w + x else x - m % w := by
  have h0 := Nat.div_add_mod m w
  have h1 := Nat.mod_lt m hw
  have h2 : m / w ≤ m := Nat.div_le_self m w
  have h3 : w * (m / w) ≤ w * m := Nat.mul_le_mul_left w h2
  have e : x + w * (m + 1) - m = (x + w - m % w) + w * (m - m / w) := by
    rw [Nat.mul_sub, Nat.mul_add, Nat.mul_one]
    omega
  rw [e, Nat.add_mul_mod_self_left]
  split
  · rw [Nat.mod_eq_of_lt (by omega)]
    omega
  · rename_i c
    have e2 : x + w - m % w = (x - m % w) + w := by omega
    rw [e2, Nat.add_mod_right, Nat.mod_eq_of_lt (by omega)]
theorem moved_is {r : List Nat} {w : Nat} (m : Nat) (hl : r.length = w) (hw : 0 < w) : (List.range w).map (fun x => r.getD ((x + w * (m + 1) - m) % w) 0) = moved r m := by
  have h1 := Nat.mod_lt m hw
  unfold moved
  rw [hl]
  apply List.ext_getElem?
  intro x
  by_cases hx : x < w
  · rw [List.getElem?_map, List.getElem?_range hx]
    show some (r.getD ((x + w * (m + 1) - m) % w) 0) = _
    rw [lean_ix hw hx]
    by_cases c : x < m % w
    · rw [if_pos c, List.getElem?_append_left (by simp; omega), List.getElem?_drop]
      have : w - m % w + x < r.length := by omega
      simp [List.getD, List.getElem?_eq_getElem this]
    · rw [if_neg c, List.getElem?_append_right (by simp; omega), List.length_drop, hl]
      have e : x - (w - (w - m % w)) = x - m % w := by omega
      have : x - m % w < r.length := by omega
      rw [e, List.getElem?_take_of_lt (by omega)]
      simp [List.getD, List.getElem?_eq_getElem this]
  · rw [List.getElem?_eq_none (by simp; omega), List.getElem?_eq_none (by simp; omega)]
theorem leanL_is {i : Im} {k : Nat} (g : Fair i) : leanR k i = leanL k i.rows := by
  unfold leanR leanL grid
  rw [g.ok.len]
  apply List.map_congr_left
  intro y hy
  have hy := List.mem_range.mp hy
  unfold at2
  exact moved_is (k * y) (g.ok.row _ (getD_mem_rows (by rw [g.ok.len]; exact hy))) g.w1
/-! ### the sizes by the call's number -/
theorem draw_flat {w h : Nat} {rows : Rows} (ok : Ok w h rows) : rows.flatten.length = w * h := by
  have key : ∀ (rows : Rows), (∀ r ∈ rows, r.length = w) → rows.flatten.length = rows.length * w := by
    intro rows
    induction rows with
    | nil => intro _; simp
    | cons r rows ih =>
      intro h
      rw [List.flatten_cons, List.length_append, h r List.mem_cons_self, ih fun q hq => h q (List.mem_cons_of_mem _ hq), List.length_cons, Nat.succ_mul]
      omega
  rw [key rows ok.row, ok.len, Nat.mul_comm]
end Pa

set_option Elab.async false
set_option maxRecDepth 100000
set_option maxHeartbeats 2000000
namespace Pa
open PySem PySem.Spec PyProof.Rows L2
/-- the numbers as values -/
def iv (r : List Nat) : List V := r.map fun (n : Nat) => V.int (n : Int)
theorem iv_len (r : List Nat) : (iv r).length = r.length := by simp [iv]
theorem iv_get {r : List Nat} {i : Nat} {n : Nat} (h : r[i]? = some n) : (iv r)[i]? = some (V.int (n : Int)) := by
  simp [iv, List.getElem?_map, h]
theorem iv_of {r : List Nat} {i : Nat} {x : V} (h : (iv r)[i]? = some x) : ∃ n, r[i]? = some n ∧ x = V.int (n : Int) := by
  unfold iv at h
  rw [List.getElem?_map] at h
  cases e : r[i]? with
  | none => rw [e] at h; cases h
  | some n => rw [e] at h; exact ⟨n, rfl, (Option.some.inj h).symm⟩
theorem iv_ints (r : List Nat) : iv r = (r.map fun (n : Nat) => (n : Int)).map V.int := by
  simp [iv, List.map_map]
theorem cast_sum : ∀ r : List Nat, (r.map fun (n : Nat) => (n : Int)).sum = ((r.sum : Nat) : Int)
  | [] => rfl
  | a :: r => by rw [List.map_cons, List.sum_cons, cast_sum r, List.sum_cons]; omega
theorem same_new {H : Hp} {p : Addr} {o : HO} (h : H p = none) : Same H (upd H p o) := fun b u e => by
  rw [upd_ne (ne_of_none e h)]
  exact e
theorem same_newer {H0 H : Hp} {p : Addr} {o : HO} (s : Same H0 H) (h : H p = none) : Same H0 (upd H p o) := s.trans (same_new h)
/-- a change of what was not there -/
theorem same_off {H0 H : Hp} {p : Addr} {o : HO} (s : Same H0 H) (h : H0 p = none) : Same H0 (upd H p o) := fun b u e => by
  rw [upd_ne (ne_of_none e h)]
  exact s b u e
/-- the rows lie at p -/
def RowsAt (H : Hp) (p : Addr) (rows : Rows) : Prop := ∃ qs : List Addr, H p = some (.lst (qs.map V.ref)) ∧ qs.length = rows.length ∧ ∀ (i : Nat) (q : Addr) (r : List Nat), qs[i]? = some q → rows[i]? = some r → H q = some (.lst (iv r))
theorem RowsAt.same {H H' : Hp} {p : Addr} {rows : Rows} (s : Same H H') (h : RowsAt H p rows) : RowsAt H' p rows := by
  obtain ⟨qs, h1, h2, h3⟩ := h
  exact ⟨qs, s _ _ h1, h2, fun i q r a b => s _ _ (h3 i q r a b)⟩
section
variable {J : It} {n : Nat} {G : Hp → Prop} {Y : Nat → Hp → V → Hp → Prop}
theorem map_range_succ {α : Type} (f : Nat → α) (i : Nat) : (List.range (i + 1)).map f = (List.range i).map f ++ [f i] := by
  rw [List.range_succ, List.map_append]
  rfl
/-- a comprehension of whole numbers -/
theorem lc_int (w : Walk J n G Y) {g : TG} {te : TE} {vs : List Nat} {σ : L2.St} {H1 : Hp} {D : Addr} {Qd : Hp → Prop} (f : Nat → Nat) (new : H1 D = none) (hn : n ≤ sizeLine) (hG : ∀ H, Same H1 H → G H) (hY : ∀ i H x H', Y i H x H' → Same H H')
    (hs : ∀ i x H H' (Q : VK), i < n → Same H1 H → Y i H x H' → (∀ H4, Same H' H4 → Q (.int (f i : Nat)) H4) → g x (wipe σ vs) H' fun σ2 H2 => wipe σ2 vs = wipe σ vs ∧ te σ2 H2 Q)
    (hm : ∀ x σ0 H (C C' : L2.St → Hp → Prop), (∀ σ2 H2, C σ2 H2 → C' σ2 H2) → g x σ0 H C → g x σ0 H C')
    (hd : ∀ H, Same H1 H → H D = some (.lst (iv ((List.range n).map f))) → Qd H) :
    ∃ W : Nat → Nat → Hp → Prop, (∃ m, W 0 m (upd H1 D (.lst []))) ∧ ∀ i m H, W i m H →
      (J.stop i H ∧ Qd H) ∨ (J.go i H ∧ ∃ Nx : Hp → Prop, (∀ H', Nx H' → ∃ m', m' < m ∧ W (i + 1) m' H') ∧ ∀ x H', J.yld i H x H' → g x (wipe σ vs) H' fun σ2 H2 => wipe σ2 vs = wipe σ vs ∧ tYes σ2 H2 fun b H3 =>
        if b = true then te σ2 H3 fun y H4 => ∃ acc, H4 D = some (.lst acc) ∧ acc.length < sizeLine ∧ Nx (upd H4 D (.lst (acc ++ [y]))) else Nx H3) := by
  refine lc_it w (fun i H => Same H1 H ∧ H D = some (.lst (iv ((List.range i).map f)))) ⟨same_new new, upd_same⟩ (fun i H _ h => hG H h.1) ?_ (fun H h => hd H h.1 h.2)
  rintro i x H H' hi ⟨s1, hD⟩ y
  refine hm _ _ _ _ _ ?_ (hs i x H H' (fun y H4 => ∃ acc, H4 D = some (.lst acc) ∧ acc.length < sizeLine ∧ (Same H1 (upd H4 D (.lst (acc ++ [y]))) ∧ upd H4 D (.lst (acc ++ [y])) D = some (.lst (iv ((List.range (i + 1)).map f))))) hi s1 y ?_)
  · rintro σ2 H2 ⟨e, q⟩
    refine ⟨e, ?_⟩
    unfold tYes
    dsimp only
    rw [if_pos rfl]
    exact q
  · intro H4 s4
    have s5 := hY i H x H' y
    refine ⟨_, s4 _ _ (s5 _ _ hD), ?_, ?_, ?_⟩
    · rw [iv_len]
      simp
      omega
    · exact same_off ((s1.trans s5).trans s4) new
    · rw [upd_same, map_range_succ]
      simp [iv]
/-- a comprehension of new rows -/
theorem lc_row (w : Walk J n G Y) {g : TG} {te : TE} {vs : List Nat} {σ : L2.St} {H1 : Hp} {D : Addr} {Qd : Hp → Prop} (f : Nat → List Nat) (new : H1 D = none) (hn : n ≤ sizeLine) (hG : ∀ H, Same H1 H → G H) (hY : ∀ i H x H', Y i H x H' → Same H H')
    (hs : ∀ i x H H' (Q : VK), i < n → Same H1 H → Y i H x H' → (∀ H4 q, Same H' H4 → H' q = none → H4 q = some (.lst (iv (f i))) → Q (.ref q) H4) → g x (wipe σ vs) H' fun σ2 H2 => wipe σ2 vs = wipe σ vs ∧ te σ2 H2 Q)
    (hm : ∀ x σ0 H (C C' : L2.St → Hp → Prop), (∀ σ2 H2, C σ2 H2 → C' σ2 H2) → g x σ0 H C → g x σ0 H C')
    (hd : ∀ H, Same H1 H → RowsAt H D ((List.range n).map f) → Qd H) :
    ∃ W : Nat → Nat → Hp → Prop, (∃ m, W 0 m (upd H1 D (.lst []))) ∧ ∀ i m H, W i m H →
      (J.stop i H ∧ Qd H) ∨ (J.go i H ∧ ∃ Nx : Hp → Prop, (∀ H', Nx H' → ∃ m', m' < m ∧ W (i + 1) m' H') ∧ ∀ x H', J.yld i H x H' → g x (wipe σ vs) H' fun σ2 H2 => wipe σ2 vs = wipe σ vs ∧ tYes σ2 H2 fun b H3 =>
        if b = true then te σ2 H3 fun y H4 => ∃ acc, H4 D = some (.lst acc) ∧ acc.length < sizeLine ∧ Nx (upd H4 D (.lst (acc ++ [y]))) else Nx H3) := by
  refine lc_it w (fun i H => Same H1 H ∧ ∃ qs : List Addr, H D = some (.lst (qs.map V.ref)) ∧ qs.length = i ∧ ∀ (j : Nat) (q : Addr), qs[j]? = some q → q ≠ D ∧ H q = some (.lst (iv (f j)))) ⟨same_new new, [], upd_same, rfl, fun j q h => by cases h⟩ (fun i H _ h => hG H h.1) ?_ (fun H h => hd H h.1 ?_)
  · rintro i x H H' hi ⟨s1, qs, hD, hl, hq⟩ y
    refine hm _ _ _ _ _ ?_ (hs i x H H' (fun y H4 => ∃ acc, H4 D = some (.lst acc) ∧ acc.length < sizeLine ∧ (Same H1 (upd H4 D (.lst (acc ++ [y]))) ∧ ∃ qs : List Addr, upd H4 D (.lst (acc ++ [y])) D = some (.lst (qs.map V.ref)) ∧ qs.length = i + 1 ∧ ∀ (j : Nat) (q : Addr), qs[j]? = some q → q ≠ D ∧ upd H4 D (.lst (acc ++ [y])) q = some (.lst (iv (f j))))) hi s1 y ?_)
    · rintro σ2 H2 ⟨e, q⟩
      refine ⟨e, ?_⟩
      unfold tYes
      dsimp only
      rw [if_pos rfl]
      exact q
    · intro H4 q4 s4 n4 e4
      have s5 := hY i H x H' y
      have hD' := s5 _ _ hD
      refine ⟨_, s4 _ _ hD', ?_, same_off ((s1.trans s5).trans s4) new, qs ++ [q4], ?_, by simp [hl], fun j q hj => ?_⟩
      · simp [hl]
        omega
      · rw [upd_same]
        simp
      · have nD : q4 ≠ D := Ne.symm (ne_of_none hD' n4)
        by_cases hjl : j < qs.length
        · rw [List.getElem?_append_left hjl] at hj
          obtain ⟨a, b⟩ := hq j q hj
          exact ⟨a, by rw [upd_ne a]; exact s4 _ _ (s5 _ _ b)⟩
        · rw [List.getElem?_append_right (by omega)] at hj
          have hj0 : j - qs.length = 0 := by
            by_cases z : j - qs.length = 0
            · exact z
            · rw [List.getElem?_eq_none (by simp; omega)] at hj
              cases hj
          rw [hj0] at hj
          have e : q4 = q := Option.some.inj hj
          subst e
          have ej : j = i := by omega
          subst ej
          exact ⟨nD, by rw [upd_ne nD]; exact e4⟩
  · obtain ⟨s1, qs, hD, hl, hq⟩ := h
    refine ⟨qs, hD, by simp [hl], fun i q r a b => ?_⟩
    have hi : i < n := by
      have := (List.getElem?_eq_some_iff.mp a).1
      omega
    rw [List.getElem?_map, List.getElem?_range hi] at b
    have e : f i = r := Option.some.inj b
    subst e
    exact (hq i q a).2
end
theorem gName_mono (i : Nat) : ∀ x σ0 H (C C' : L2.St → Hp → Prop), (∀ σ2 H2, C σ2 H2 → C' σ2 H2) → gName i x σ0 H C → gName i x σ0 H C' := fun _ _ _ _ _ h q => h _ _ q
end Pa

set_option Elab.async false
set_option maxRecDepth 100000
set_option maxHeartbeats 4000000
set_option linter.all false
namespace Pa
open PySem PySem.Spec PyProof.Rows L2

/-! ### the text by places -/
def top (i : Nat) : Stmt := PySem.Challenge.pw_pictureareas_s01_answers.main.body.getD i (.Pass ⟨0, 0, 0, 0⟩)
abbrev s_Picture_init : Stmt := inClass (top 28) 0
theorem sc_Picture_init : FnScope ["self", "d", "rows"] ["self", "d", "rows"] (defScope s_Picture_init) := ⟨rfl, rfl, rfl, by decide +kernel, rfl, by decide +kernel, by decide +kernel⟩
abbrev s_Picture_width : Stmt := inClass (top 28) 1
theorem sc_Picture_width : FnScope ["self"] ["self"] (defScope s_Picture_width) := ⟨rfl, rfl, rfl, by decide +kernel, rfl, by decide +kernel, by decide +kernel⟩
abbrev s_Picture_height : Stmt := inClass (top 28) 2
theorem sc_Picture_height : FnScope ["self"] ["self"] (defScope s_Picture_height) := ⟨rfl, rfl, rfl, by decide +kernel, rfl, by decide +kernel, by decide +kernel⟩
abbrev s_Desk_init : Stmt := inClass (top 29) 0
theorem sc_Desk_init : FnScope ["self"] ["self"] (defScope s_Desk_init) := ⟨rfl, rfl, rfl, by decide +kernel, rfl, by decide +kernel, by decide +kernel⟩
abbrev s_Desk_begin : Stmt := inClass (top 29) 1
theorem sc_Desk_begin : FnScope ["self", "fresh"] ["self", "fresh"] (defScope s_Desk_begin) := ⟨rfl, rfl, rfl, by decide +kernel, rfl, by decide +kernel, by decide +kernel⟩
abbrev s_Desk_change : Stmt := inClass (top 29) 2
theorem sc_Desk_change : FnScope ["self", "fresh"] ["self", "fresh"] (defScope s_Desk_change) := ⟨rfl, rfl, rfl, by decide +kernel, rfl, by decide +kernel, by decide +kernel⟩
abbrev s_Desk_undo : Stmt := inClass (top 29) 3
theorem sc_Desk_undo : FnScope ["self"] ["self"] (defScope s_Desk_undo) := ⟨rfl, rfl, rfl, by decide +kernel, rfl, by decide +kernel, by decide +kernel⟩
abbrev s_common_divisor : Stmt := top 30
theorem sc_common_divisor : FnScope ["first", "second", "rest"] ["first", "second"] (defScope s_common_divisor) := ⟨rfl, rfl, rfl, by decide +kernel, rfl, by decide +kernel, by decide +kernel⟩
abbrev s_nearest_whole : Stmt := top 31
theorem sc_nearest_whole : FnScope ["upper", "lower"] ["upper", "lower"] (defScope s_nearest_whole) := ⟨rfl, rfl, rfl, by decide +kernel, rfl, by decide +kernel, by decide +kernel⟩
abbrev s_divided : Stmt := top 32
theorem sc_divided : FnScope ["row", "divisor", "cell"] ["row", "divisor"] (defScope s_divided) := ⟨rfl, rfl, rfl, by decide +kernel, rfl, by decide +kernel, by decide +kernel⟩
abbrev s_in_lowest_terms : Stmt := top 33
theorem sc_in_lowest_terms : FnScope ["d", "rows", "divisor", "row", "cell"] ["d", "rows"] (defScope s_in_lowest_terms) := ⟨rfl, rfl, rfl, by decide +kernel, rfl, by decide +kernel, by decide +kernel⟩
abbrev s_column : Stmt := top 34
theorem sc_column : FnScope ["rows", "x", "row"] ["rows", "x"] (defScope s_column) := ⟨rfl, rfl, rfl, by decide +kernel, rfl, by decide +kernel, by decide +kernel⟩
abbrev s_columns : Stmt := top 35
theorem sc_columns : FnScope ["rows", "x"] ["rows"] (defScope s_columns) := ⟨rfl, rfl, rfl, by decide +kernel, rfl, by decide +kernel, by decide +kernel⟩
abbrev s_backwards : Stmt := top 36
theorem sc_backwards : FnScope ["row"] ["row"] (defScope s_backwards) := ⟨rfl, rfl, rfl, by decide +kernel, rfl, by decide +kernel, by decide +kernel⟩
abbrev s_area_weights : Stmt := top 37
theorem sc_area_weights : FnScope ["old", "new", "place", "start", "end", "x"] ["old", "new", "place"] (defScope s_area_weights) := ⟨rfl, rfl, rfl, by decide +kernel, rfl, by decide +kernel, by decide +kernel⟩
abbrev s_nearest_weights : Stmt := top 38
theorem sc_nearest_weights : FnScope ["old", "new", "place", "nearest", "x"] ["old", "new", "place"] (defScope s_nearest_weights) := ⟨rfl, rfl, rfl, by decide +kernel, rfl, by decide +kernel, by decide +kernel⟩
abbrev s_between_weights : Stmt := top 39
theorem sc_between_weights : FnScope ["old", "new", "place", "step", "middle", "inside", "x"] ["old", "new", "place"] (defScope s_between_weights) := ⟨rfl, rfl, rfl, by decide +kernel, rfl, by decide +kernel, by decide +kernel⟩
abbrev s_weights_of_one : Stmt := top 40
theorem sc_weights_of_one : FnScope ["call", "old", "new", "place"] ["call", "old", "new", "place"] (defScope s_weights_of_one) := ⟨rfl, rfl, rfl, by decide +kernel, rfl, by decide +kernel, by decide +kernel⟩
abbrev s_weights_of_all : Stmt := top 41
theorem sc_weights_of_all : FnScope ["call", "old", "new", "place"] ["call", "old", "new"] (defScope s_weights_of_all) := ⟨rfl, rfl, rfl, by decide +kernel, rfl, by decide +kernel, by decide +kernel⟩
abbrev s_weighed : Stmt := top 42
theorem sc_weighed : FnScope ["row", "weights", "cell", "weight"] ["row", "weights"] (defScope s_weighed) := ⟨rfl, rfl, rfl, by decide +kernel, rfl, by decide +kernel, by decide +kernel⟩
abbrev s_row_resized : Stmt := top 43
theorem sc_row_resized : FnScope ["row", "all_weights", "weights"] ["row", "all_weights"] (defScope s_row_resized) := ⟨rfl, rfl, rfl, by decide +kernel, rfl, by decide +kernel, by decide +kernel⟩
abbrev s_rows_resized : Stmt := top 44
theorem sc_rows_resized : FnScope ["rows", "all_weights", "row"] ["rows", "all_weights"] (defScope s_rows_resized) := ⟨rfl, rfl, rfl, by decide +kernel, rfl, by decide +kernel, by decide +kernel⟩
abbrev s_resized : Stmt := top 45
theorem sc_resized : FnScope ["picture", "call", "w", "h", "across", "down", "widened", "rows"] ["picture", "call", "w", "h"] (defScope s_resized) := ⟨rfl, rfl, rfl, by decide +kernel, rfl, by decide +kernel, by decide +kernel⟩
abbrev s_turned : Stmt := top 46
theorem sc_turned : FnScope ["picture", "k", "rows", "quarter", "one"] ["picture", "k"] (defScope s_turned) := ⟨rfl, rfl, rfl, by decide +kernel, rfl, by decide +kernel, by decide +kernel⟩
abbrev s_mirrored : Stmt := top 47
theorem sc_mirrored : FnScope ["picture", "k", "row"] ["picture", "k"] (defScope s_mirrored) := ⟨rfl, rfl, rfl, by decide +kernel, rfl, by decide +kernel, by decide +kernel⟩
abbrev s_cut_out : Stmt := top 48
theorem sc_cut_out : FnScope ["picture", "x", "y", "u", "v", "row"] ["picture", "x", "y", "u", "v"] (defScope s_cut_out) := ⟨rfl, rfl, rfl, by decide +kernel, rfl, by decide +kernel, by decide +kernel⟩
abbrev s_lines_of : Stmt := top 49
theorem sc_lines_of : FnScope ["cell", "width", "height", "y"] ["cell", "width", "height"] (defScope s_lines_of) := ⟨rfl, rfl, rfl, by decide +kernel, rfl, by decide +kernel, by decide +kernel⟩
abbrev s_bordered : Stmt := top 50
theorem sc_bordered : FnScope ["picture", "left", "above", "right", "below", "f", "cell", "width", "middle", "row"] ["picture", "left", "above", "right", "below", "f"] (defScope s_bordered) := ⟨rfl, rfl, rfl, by decide +kernel, rfl, by decide +kernel, by decide +kernel⟩
abbrev s_moved_on : Stmt := top 51
theorem sc_moved_on : FnScope ["row", "steps", "staying"] ["row", "steps"] (defScope s_moved_on) := ⟨rfl, rfl, rfl, by decide +kernel, rfl, by decide +kernel, by decide +kernel⟩
abbrev s_leaned : Stmt := top 52
theorem sc_leaned : FnScope ["picture", "k", "y", "row"] ["picture", "k"] (defScope s_leaned) := ⟨rfl, rfl, rfl, by decide +kernel, rfl, by decide +kernel, by decide +kernel⟩
abbrev s_row_rounded : Stmt := top 53
theorem sc_row_rounded : FnScope ["row", "d", "cell"] ["row", "d"] (defScope s_row_rounded) := ⟨rfl, rfl, rfl, by decide +kernel, rfl, by decide +kernel, by decide +kernel⟩
abbrev s_rounded : Stmt := top 54
theorem sc_rounded : FnScope ["picture", "row"] ["picture"] (defScope s_rounded) := ⟨rfl, rfl, rfl, by decide +kernel, rfl, by decide +kernel, by decide +kernel⟩
abbrev s_drawn : Stmt := top 55
theorem sc_drawn : FnScope ["w", "h", "cells", "y"] ["w", "h", "cells"] (defScope s_drawn) := ⟨rfl, rfl, rfl, by decide +kernel, rfl, by decide +kernel, by decide +kernel⟩
abbrev s_size_refusal : Stmt := top 56
theorem sc_size_refusal : FnScope ["w", "h"] ["w", "h"] (defScope s_size_refusal) := ⟨rfl, rfl, rfl, by decide +kernel, rfl, by decide +kernel, by decide +kernel⟩
abbrev s_picture_refusal : Stmt := top 57
theorem sc_picture_refusal : FnScope ["w", "h", "cells"] ["w", "h", "cells"] (defScope s_picture_refusal) := ⟨rfl, rfl, rfl, by decide +kernel, rfl, by decide +kernel, by decide +kernel⟩
abbrev s_most_refusal : Stmt := top 58
theorem sc_most_refusal : FnScope ["number", "most"] ["number", "most"] (defScope s_most_refusal) := ⟨rfl, rfl, rfl, by decide +kernel, rfl, by decide +kernel, by decide +kernel⟩
abbrev s_cut_refusal : Stmt := top 59
theorem sc_cut_refusal : FnScope ["picture", "x", "y", "u", "v"] ["picture", "x", "y", "u", "v"] (defScope s_cut_refusal) := ⟨rfl, rfl, rfl, by decide +kernel, rfl, by decide +kernel, by decide +kernel⟩
abbrev s_border_refusal : Stmt := top 60
theorem sc_border_refusal : FnScope ["picture", "left", "above", "right", "below", "f"] ["picture", "left", "above", "right", "below", "f"] (defScope s_border_refusal) := ⟨rfl, rfl, rfl, by decide +kernel, rfl, by decide +kernel, by decide +kernel⟩
abbrev s_undo_refusal : Stmt := top 61
theorem sc_undo_refusal : FnScope ["earlier"] ["earlier"] (defScope s_undo_refusal) := ⟨rfl, rfl, rfl, by decide +kernel, rfl, by decide +kernel, by decide +kernel⟩
abbrev s_cell_refusal : Stmt := top 62
theorem sc_cell_refusal : FnScope ["picture", "x", "y"] ["picture", "x", "y"] (defScope s_cell_refusal) := ⟨rfl, rfl, rfl, by decide +kernel, rfl, by decide +kernel, by decide +kernel⟩
abbrev s_refusal : Stmt := top 63
theorem sc_refusal : FnScope ["desk", "call", "numbers", "picture"] ["desk", "call", "numbers"] (defScope s_refusal) := ⟨rfl, rfl, rfl, by decide +kernel, rfl, by decide +kernel, by decide +kernel⟩
abbrev s_changed : Stmt := top 64
theorem sc_changed : FnScope ["picture", "call", "numbers"] ["picture", "call", "numbers"] (defScope s_changed) := ⟨rfl, rfl, rfl, by decide +kernel, rfl, by decide +kernel, by decide +kernel⟩
abbrev s_size_and_d : Stmt := top 65
theorem sc_size_and_d : FnScope ["picture"] ["picture"] (defScope s_size_and_d) := ⟨rfl, rfl, rfl, by decide +kernel, rfl, by decide +kernel, by decide +kernel⟩
abbrev s_fraction_and_nearest : Stmt := top 66
theorem sc_fraction_and_nearest : FnScope ["upper", "lower", "divisor"] ["upper", "lower"] (defScope s_fraction_and_nearest) := ⟨rfl, rfl, rfl, by decide +kernel, rfl, by decide +kernel, by decide +kernel⟩
abbrev s_answer_to_picture : Stmt := top 67
theorem sc_answer_to_picture : FnScope ["desk", "w", "h", "cells"] ["desk", "w", "h", "cells"] (defScope s_answer_to_picture) := ⟨rfl, rfl, rfl, by decide +kernel, rfl, by decide +kernel, by decide +kernel⟩
abbrev s_answer_to_change : Stmt := top 68
theorem sc_answer_to_change : FnScope ["desk", "call", "numbers", "fresh"] ["desk", "call", "numbers"] (defScope s_answer_to_change) := ⟨rfl, rfl, rfl, by decide +kernel, rfl, by decide +kernel, by decide +kernel⟩
abbrev s_answer_to_undo : Stmt := top 69
theorem sc_answer_to_undo : FnScope ["desk"] ["desk"] (defScope s_answer_to_undo) := ⟨rfl, rfl, rfl, by decide +kernel, rfl, by decide +kernel, by decide +kernel⟩
abbrev s_answer_to_now : Stmt := top 70
theorem sc_answer_to_now : FnScope ["picture", "shown", "row"] ["picture"] (defScope s_answer_to_now) := ⟨rfl, rfl, rfl, by decide +kernel, rfl, by decide +kernel, by decide +kernel⟩
abbrev s_answer_to_cell : Stmt := top 71
theorem sc_answer_to_cell : FnScope ["picture", "x", "y"] ["picture", "x", "y"] (defScope s_answer_to_cell) := ⟨rfl, rfl, rfl, by decide +kernel, rfl, by decide +kernel, by decide +kernel⟩
abbrev s_answer_to_told : Stmt := top 72
theorem sc_answer_to_told : FnScope ["picture", "width", "height", "total", "row"] ["picture"] (defScope s_answer_to_told) := ⟨rfl, rfl, rfl, by decide +kernel, rfl, by decide +kernel, by decide +kernel⟩
abbrev s_answer_to_call : Stmt := top 73
theorem sc_answer_to_call : FnScope ["desk", "call", "numbers", "refused"] ["desk", "call", "numbers"] (defScope s_answer_to_call) := ⟨rfl, rfl, rfl, by decide +kernel, rfl, by decide +kernel, by decide +kernel⟩
abbrev s_end_of_call : Stmt := top 74
theorem sc_end_of_call : FnScope ["calls", "place", "end"] ["calls", "place"] (defScope s_end_of_call) := ⟨rfl, rfl, rfl, by decide +kernel, rfl, by decide +kernel, by decide +kernel⟩
abbrev s_answers : Stmt := top 75
theorem sc_answers : FnScope ["calls", "desk", "given", "place", "end", "answered"] ["calls"] (defScope s_answers) := ⟨rfl, rfl, rfl, by decide +kernel, rfl, by decide +kernel, by decide +kernel⟩
end Pa

set_option Elab.async false
set_option maxRecDepth 100000
set_option maxHeartbeats 4000000
set_option linter.all false
namespace Pa
open PySem PySem.Spec PyProof.Rows L2
section
variable {prog : Program} {w : World} {A : Around} {E : Value → Shared → Prop} {s : Shared}
/-- a list grown by what a list gives from behind -/
theorem rev_grow {it l S : Addr} {items : Array Value} {c0 : Nat} {R : Result → Shared → Prop} (hh : A.handled = none)
    (hit : s.heap.IsRevIter it l ((items.size : Int) - 1)) (hl : s.heap.IsList l items) (hne : l ≠ it)
    (hn : items.size ≤ sizeLine) (hSi : S ≠ it) (hSl : S ≠ l)
    (hS : s.heap.get? S = some { cls := .type "list", data := .seq #[] c0 })
    (hR : ∀ (g : Heap) (tk : Nat) (acc : Array Value) (c : Nat), (∀ b o, b ≠ S → b ≠ it → s.heap.get? b = some o → g.get? b = some o) →
      g.get? S = some { cls := .type "list", dict := none, data := .seq acc c, slots := #[] } →
      ItemsOf (fun i v => items[items.size - 1 - i]? = some v) acc items.size → R (.ok (.ret .none)) { s with heap := g, toks := tk }) :
    wpAny (model prog w) A.in1 (Builtin.List.listExtendWith (.ref S) (.ref it) .none)
      (fun fin t => match fin with
        | .done f => R (.ok f) t
        | .again c => c.quiet = true ∧ codeAny (model prog w) A c R t)
      (fun e t => R (.error e) t) s := by
  have W := (Walks.listRev (prog := prog) (w := w) (A := A.in1) hh it l hne items).toS
  have out : S ∉ [it, l] := by
    simp only [List.mem_cons, List.not_mem_nil, or_false, not_or]
    exact ⟨hSi, hSl⟩
  have ty : s.TypeIs (.ref it) "list_reverseiterator" := hit.typeIs
  have other : Builtin.List.listSameRef (.ref S) (.ref it) = false := by
    simp [Builtin.List.listSameRef, hSi]
  unfold Builtin.List.listExtendWith
  refine wpAny_bind (wpAny_typeOf ty ?_)
  rw [if_neg (by rw [other]; decide)]
  refine wpAny_bind (wpAny_pyIter_revIter hit ?_)
  refine wpAny_bind (wpAny_holding ?_)
  unfold Builtin.List.listLengthHint
  refine wpAny_bind (wpAny_specialOf ty RT.nolen_lri ?_)
  show wpAny _ A.in1 (specialOf (Value.ref it) (Str.ofString "__length_hint__") >>= _) _ _ _
  refine wpAny_bind (wpAny_specialOf ty RT.hint_lri ?_)
  generalize hid : ("list_reverseiterator.__length_hint__" : String) = nm
  wp_delta
  rw [show splitId nm = some ("list_reverseiterator", "__length_hint__") from by
    subst hid
    decide +kernel]
  subst hid
  refine wpAny_bind (wpAny_isInstance (b := true) ty (by
    rw [isSubtype_type]
    kernel_rfl) ?_)
  refine wpAny_pure ?_
  rw [if_neg (by decide)]
  have e0 : ((items.size : Nat) : Int) - 1 - ((0 : Nat) : Int) = (items.size : Int) - 1 := by omega
  refine wpAny_pure ⟨plainId_quiet F.plain_extend_loop _, codeAny_extend_loopS W hn _ out _ items.size 0 _ _ _ rfl (Nat.zero_le _)
    ⟨Nat.zero_le _, by
      rw [e0]
      exact hit, hl⟩ hS (ItemsOf.nil _) fun t acc c hm hT hacc => ?_⟩
  rw [Moved.eq_with hm]
  refine hR t.heap t.toks acc c (fun b o hb hb2 e => hm.heap b o (fun z => ?_) e) hT hacc
  rcases List.mem_cons.mp z with z | z
  · exact hb z
  · exact hb2 (List.mem_singleton.mp z)
theorem rev_init {it l S : Addr} {items : Array Value} {R : Result → Shared → Prop} (hh : A.handled = none)
    (hit : s.heap.IsRevIter it l ((items.size : Int) - 1)) (hl : s.heap.IsList l items) (hne : l ≠ it)
    (hn : items.size ≤ sizeLine) (hSi : S ≠ it) (hSl : S ≠ l)
    (hS : s.heap.get? S = some { cls := .type "list", data := .seq #[] })
    (hR : ∀ (g : Heap) (tk : Nat) (acc : Array Value) (c : Nat), (∀ b o, b ≠ S → b ≠ it → s.heap.get? b = some o → g.get? b = some o) →
      g.get? S = some { cls := .type "list", dict := none, data := .seq acc c, slots := #[] } →
      ItemsOf (fun i v => items[items.size - 1 - i]? = some v) acc items.size → R (.ok (.ret .none)) { s with heap := g, toks := tk }) :
    wpAny (model prog w) A.in1 (Builtin.«list.__init__» ⟨[.ref S, .ref it], []⟩)
      (fun fin t => match fin with
        | .done f => R (.ok f) t
        | .again c => c.quiet = true ∧ codeAny (model prog w) A c R t)
      (fun e t => R (.error e) t) s := by
  show wpAny _ _ (do
    let old ← Builtin.List.listItems (.ref S)
    Builtin.List.listUpdate (.ref S) (fun _ => #[])
    letGo old.toList.reverse
    Builtin.List.listExtendWith (.ref S) (.ref it) .none) _ _ s
  refine wpAny_bind ?_
  unfold Builtin.List.listItems
  refine wpAny_bind (wpAny_seqItems hS rfl (wpAny_pure ?_))
  show wpAny _ _ (updateSeq S (fun _ => #[]) >>= fun _ => letGo (#[] : Array Value).toList.reverse >>= fun _ =>
    Builtin.List.listExtendWith (.ref S) (.ref it) .none) _ _ s
  refine wpAny_bind (wpAny_updateSeq hS rfl ?_)
  have hS2 := Heap.get?_update_self (Obj.mapSeq (fun _ => (#[] : Array Value))) hS rfl
  have oth : ∀ b o, b ≠ S → s.heap.get? b = some o → (s.heap.update S (Obj.mapSeq (fun _ => (#[] : Array Value)))).get? b = some o := by
    intro b o hb e
    exact (Heap.get?_update_other _ _ (Ne.symm hb)).trans e
  refine wpAny_bind (wpAny_letGo ?_)
  refine rev_grow (l := l) (items := items) hh (hit.at fun o e => oth it o (Ne.symm hSi) e) ?_ hne hn hSi hSl hS2 (fun g tk acc c hk hT hacc => ?_)
  · obtain ⟨o, ho, x⟩ := hl
    exact ⟨o, oth l o (Ne.symm hSl) ho, x⟩
  · exact hR g tk acc c (fun b o hb hb2 e => hk b o hb hb2 (oth b o hb e)) hT hacc
theorem call_list_rev {it l : Addr} {items : Array Value} {Q : Value → Shared → Prop} (hh : A.handled = none)
    (hit : s.heap.IsRevIter it l ((items.size : Int) - 1)) (hl : s.heap.IsList l items) (hne : l ≠ it) (hn : items.size ≤ sizeLine)
    (hQ : ∀ (g : Heap) (tk : Nat) (acc : Array Value) (c : Nat), (∀ b o, b ≠ it → s.heap.get? b = some o → g.get? b = some o) →
      g.get? s.heap.objs.size = some { cls := .type "list", dict := none, data := .seq acc c, slots := #[] } →
      ItemsOf (fun i v => items[items.size - 1 - i]? = some v) acc items.size → Q (.ref s.heap.objs.size) { s with heap := g, toks := tk }) :
    wpAny (model prog w) A (call (.type "list") [.ref it]) Q E s := by
  refine callType_codes (Q₁ := fun obj t => obj = .ref s.heap.objs.size ∧ t = { s with heap := s.heap.push { cls := .type "list", data := .seq #[] } })
    PySem.F.called_list (PySem.F.typeCall_list_1 _) PySem.F.entry_list_init (code_list_new _ ⟨rfl, rfl⟩) fun obj t ht => ?_
  obtain ⟨rfl, rfl⟩ := ht
  have hS : (s.heap.push { cls := .type "list", data := .seq #[] }).get? s.heap.objs.size = some { cls := .type "list", data := .seq #[] } :=
    Heap.get?_push_size _ rfl
  have li : it < s.heap.objs.size := by
    obtain ⟨o, ho, _⟩ := hit
    exact Heap.lt_size ho
  have ll : l < s.heap.objs.size := by
    obtain ⟨o, ho, _⟩ := hl
    exact Heap.lt_size ho
  refine ⟨⟨_, hS, rfl⟩, PySem.F.args_list_init_2 _ _, rev_init (A := A.in1) (l := l) (items := items) hh (hit.at fun o e => Heap.get?_push_of_some _ e) (hl.push _) hne hn (Nat.ne_of_gt li) (Nat.ne_of_gt ll) hS (fun g tk acc c hk hT hacc => ?_)⟩
  exact ⟨rfl, hQ g tk acc c (fun b o hb e => hk b o (Nat.ne_of_lt (Heap.lt_size e)) hb (Heap.get?_push_of_some _ e)) hT hacc⟩
end
/-- list(reversed(x)), x a list: a new list -/
def tListRev (K : PySem.W.Frag) (te : TE) : TE := fun σ H Q => te σ H fun v H1 => ∃ (a : Addr) (xs : List V), v = .ref a ∧ SqL K H1 a xs ∧ ∀ q, H1 q = none → Q (.ref q) (upd H1 q (.lst xs.reverse))
section
variable {X : Cx}
theorem pe_listRev {e : Expr} {te : TE} {p p2 pos pos2 : Pos} (hc : X.calm = true) (hg : Gl X "list") (hm : X.mg "list" = none)
    (hg2 : Gl X "reversed") (hm2 : X.mg "reversed" = none) (he : PE X e te)
    (hs : starEach [e] X.env = (false, eval e X.env) :: starEach [] X.env := by rfl)
    (hs2 : starEach [.Call (.Name "reversed" p2) [e] [] pos2] X.env = (false, eval (.Call (.Name "reversed" p2) [e] [] pos2) X.env) :: starEach [] X.env := by rfl) :
    PE X (.Call (.Name "list" p) [.Call (.Name "reversed" p2) [e] [] pos2] [] pos) (tListRev X.K te) := by
  refine ⟨fun pins s σ H Q I h => ?_⟩
  refine Call_ (ld_blt I hg hm PyProof.Rows.boot_list (PyProof.Rows.callWith_type1 (args_cons (Call_ (ld_blt I hg2 hm2 PyProof.Rows.boot_reversed
    (PyProof.Rows.callWith_type1 (args_cons (thn (he.run pins s σ H _ I h) fun u s1 ⟨v, H1, I1, r1, q1⟩ => args_nil ?_) hs) hs rfl))) hs2) hs2 rfl))
  obtain ⟨a, xs, ev, hq, q⟩ := q1
  subst ev
  obtain rfl : u = Value.ref a := r1
  obtain ⟨its, rv, p', hz⟩ := I1.list hq
  refine call_reversed_list p'.isList (args_nil ?_)
  have I2 : Inv X pins σ H1 { s1 with heap := s1.heap.push (revObj a ((its.toArray.size : Int) - 1)) } :=
    I1.kept (t' := s1.toks) fun b o e => Heap.get?_push_of_some _ e
  have fp : FpOk X pins H1 s1.heap.objs.size := I1.fpOk (H' := H1) (Nat.le_refl _) (I1.hok.fresh (Nat.le_refl _))
  have hl := p'.isList
  obtain ⟨ol, hol, _⟩ := id hl
  have hne : a ≠ s1.heap.objs.size := Nat.ne_of_lt (Heap.lt_size hol)
  have hn : its.toArray.size ≤ sizeLine := by
    rw [List.size_toArray, ← rv.length]
    exact hz
  refine call_list_rev (s := { s1 with heap := s1.heap.push (revObj a ((its.toArray.size : Int) - 1)) }) (I1.ok.hd hc)
    ⟨_, Heap.get?_push_size _ rfl, rfl, rfl⟩ (hl.push _) hne hn fun g tk acc c hk hT hi => ?_
  generalize hTT : ({ s1 with heap := s1.heap.push (revObj a ((its.toArray.size : Int) - 1)) } : Shared).heap.objs.size = T at hT ⊢
  refine ⟨.ref T, upd H1 T (.lst xs.reverse), ?_, rfl, q _ ?_⟩
  · refine I2.turnedNew (t' := tk) (ch := [s1.heap.objs.size]) (fun b o hb e => hk b o (fun z => hb (by simp [z])) e) (fun b hb => ?_) (Nat.le_of_eq hTT) ?_
    · rw [List.mem_singleton.mp hb]
      exact fp
    · refine ⟨by rw [List.length_reverse]; exact hz, acc.toList, c, RT.vals_rev rv hi, ?_⟩
      rw [hT]
  · exact I2.hok.fresh (Nat.le_of_eq hTT)
end
end Pa

set_option Elab.async false
set_option maxRecDepth 100000
set_option maxHeartbeats 4000000
set_option linter.all false
namespace Pa
open PySem PySem.Spec PyProof.Rows L2
section
variable {P : Program} {w : World} {K : PySem.W.Frag} {mg : Str → Option Value} {base : Heap} {CPicture CDesk : Addr}
theorem tif {c : Bool} {A B : Prop} (h1 : c = true → A) (h2 : c = false → B) : if c = true then A else B := by
  cases c with
  | true => rw [if_pos rfl]; exact h1 rfl
  | false => rw [if_neg Bool.false_ne_true]; exact h2 rfl
theorem tif_t {c : Bool} {A B : Prop} (hc : c = true) (h : A) : if c = true then A else B := by
  rw [if_pos hc]
  exact h
theorem tif_f {c : Bool} {A B : Prop} (hc : c = false) (h : B) : if c = true then A else B := by
  rw [hc, if_neg Bool.false_ne_true]
  exact h
/-- a constant of the top -/
def Cst (mg : Str → Option Value) (x : Str) (i : Int) : Prop := ∃ t, mg x = some (.int i t)
/-- a def of the top, called by its name -/
def Fn (P : Program) (w : World) (K : PySem.W.Frag) (mg : Str → Option Value) (base : Heap) (k : Nat) (x : Str) (ps : List Str) (sp : Sp) : Prop :=
  ∃ (f : Addr) (fd : FuncData), FnOk P w K mg base CX0 k f fd ps sp ∧ mg x = some (.ref f) ∧ PySem.W.keepIn K (.ref f) = true ∧ Binds K fd ps []
/-- what the top has written of the classes and names -/
structure Txt (K : PySem.W.Frag) (mg : Str → Option Value) (CPicture CDesk : Addr) : Prop where
  clPicture : Cls K CPicture
  nD : NoAttr K CPicture "d"
  nR : NoAttr K CPicture "rows"
  gPicture : mg "Picture" = some (.ref CPicture)
  clDesk : Cls K CDesk
  nP : NoAttr K CDesk "picture"
  nE : NoAttr K CDesk "earlier"
  gDesk : mg "Desk" = some (.ref CDesk)
  len : mg "len" = none
  range : mg "range" = none
  zip : mg "zip" = none
  sum : mg "sum" = none
  list : mg "list" = none
  reversed : mg "reversed" = none
  min : mg "min" = none
  max : mg "max" = none
  abs : mg "abs" = none
  enumerate : mg "enumerate" = none
/-- a method of a class -/
def Me (P : Program) (w : World) (K : PySem.W.Frag) (mg : Str → Option Value) (base : Heap) (k : Nat) (C : Addr) (x : Str) (ps : List Str) (sp : Sp) : Prop :=
  ∃ (f : Addr) (fd : FuncData), FnOk P w K mg base CX0 k f fd ps sp ∧ Meth K C x f ∧ Binds K fd ps []
/-- a class's making -/
def Ma (P : Program) (w : World) (K : PySem.W.Frag) (mg : Str → Option Value) (base : Heap) (k : Nat) (C : Addr) (ps : List Str) (sp : Sp) : Prop :=
  ∃ (f : Addr) (fd : FuncData), FnOk P w K mg base CX0 k f fd ps sp ∧ Mk K C f ∧ Binds K fd ps []
/-! the heap -/
def pf (d : Nat) (p : Addr) : List (Str × V) := [("d", .int (d : Int)), ("rows", .ref p)]
def PicAt (C : Addr) (H : Hp) (a : Addr) (d : Nat) (rows : Rows) : Prop := ∃ dx p, H a = some (.ins C dx (pf d p)) ∧ RowsAt H p rows
theorem PicAt.same {C : Addr} {H H' : Hp} {a : Addr} {d : Nat} {rows : Rows} (s : Same H H') (h : PicAt C H a d rows) : PicAt C H' a d rows := by
  obtain ⟨dx, p, h1, h2⟩ := h
  exact ⟨dx, p, s _ _ h1, h2.same s⟩
theorem lk_here {k : Str} {v : V} {r : List (Str × V)} : List.lookup k ((k, v) :: r) = some v := by
  have e : (k == k) = true := beq_self_eq_true k
  simp only [List.lookup, e]
theorem lk_past {k g : Str} {v : V} {r : List (Str × V)} (h : (k == g) = false) : List.lookup k ((g, v) :: r) = List.lookup k r := by
  simp only [List.lookup, h]
theorem put_here {f : Str} {v x : V} {r : List (Str × V)} : putF f v ((f, x) :: r) = (f, v) :: r := if_pos rfl
theorem put_past {f g : Str} {v x : V} {r : List (Str × V)} (h : ¬ g = f) : putF f v ((g, x) :: r) = (g, x) :: putF f v r := if_neg h
theorem pf_d (d : Nat) (p : Addr) : (pf d p).lookup ("d" : Str) = some (.int (d : Int)) := lk_here
theorem pf_rows (d : Nat) (p : Addr) : (pf d p).lookup ("rows" : Str) = some (.ref p) := (lk_past (by decide +kernel)).trans lk_here
theorem pf_no (d : Nat) (p : Addr) {m : Str} (h1 : (m == ("d" : Str)) = false) (h2 : (m == ("rows" : Str)) = false) : (pf d p).lookup m = none := (lk_past h1).trans ((lk_past h2).trans rfl)
theorem pf_new (d : Nat) (p : Addr) : putF "rows" (.ref p) (putF "d" (.int (d : Int)) []) = pf d p := (put_past (by decide +kernel)).trans rfl
theorem take_more {α : Type} : ∀ {l : List α} {i : Nat} {x : α}, l[i]? = some x → l.take (i + 1) = l.take i ++ [x]
  | [], i, x, h => by simp at h
  | a :: l, 0, x, h => by
    have e : a = x := Option.some.inj h
    subst e
    rfl
  | a :: l, i + 1, x, h => by
    have ih := take_more (l := l) (i := i) (x := x) h
    show a :: l.take (i + 1) = a :: l.take i ++ [x]
    rw [ih]
    rfl
theorem refs_of {qs : List Addr} {i : Nat} {x : V} (h : (qs.map V.ref)[i]? = some x) : ∃ q, qs[i]? = some q ∧ x = V.ref q := by
  rw [List.getElem?_map] at h
  cases e : qs[i]? with
  | none => rw [e] at h; cases h
  | some q => rw [e] at h; exact ⟨q, rfl, (Option.some.inj h).symm⟩
theorem map_range_rows {β : Type} (rows : Rows) (f : List Nat → β) : (List.range rows.length).map (fun i => f (rows.getD i [])) = rows.map f := by
  apply List.ext_getElem?
  intro i
  by_cases hi : i < rows.length
  · simp [List.getElem?_map, List.getElem?_range hi, List.getElem?_eq_getElem hi, List.getD]
  · rw [List.getElem?_eq_none (by simp; omega), List.getElem?_eq_none (by simp; omega)]
theorem mul_lt {a b : Nat} (ha : a ≤ 5000) (hb : b ≤ 5000) : a * b ≤ 25000000 := Nat.le_trans (Nat.mul_le_mul ha hb) (by decide)
theorem cmul_l {a : Nat} {b : Int} (ha : a ≤ 25000000) : CMul (a : Int) b := .inl ⟨by omega, by omega⟩
theorem walk_rng {n : Nat} : Walk (Itr 0 n) n (fun _ => True) (YFn fun i => .int (i : Int)) := by
  have h := walk_range (lo := 0) (n := n)
  simp only [Int.zero_add] at h
  exact h
theorem int_eq {i j : Int} (c : decide (V.int i = V.int j) = true) : i = j := by simpa using c
theorem int_ne {i j : Int} (c : decide (V.int i = V.int j) = false) : i ≠ j := by simpa using c
end
end Pa

set_option Elab.async false
set_option maxRecDepth 100000
set_option maxHeartbeats 4000000
set_option linter.all false
namespace Pa
open PySem PySem.Spec PyProof.Rows L2
section
variable {P : Program} {w : World} {K : PySem.W.Frag} {mg : Str → Option Value} {base : Heap} {CPicture CDesk : Addr}
/-! common_divisor -/
def sp_common_divisor : Sp := fun vs H Q _ => ∃ a b : Nat, vs = [.int (a : Int), .int (b : Int)] ∧ Q (.int ((Nat.gcd a b : Nat) : Int)) H
theorem fmod_nat (a b : Nat) : Int.fmod (a : Int) (b : Int) = ((a % b : Nat) : Int) := by
  rw [Int.fmod_eq_emod_of_nonneg _ (by omega)]
  rfl
theorem ok_common_divisor {f : Addr} {fd : FuncData} (F : Fun K "common_divisor" "common_divisor" s_common_divisor f fd) (T : Txt K mg CPicture CDesk)  : FnOk P w K mg base CX0 1 f fd ["first", "second"] (sp_common_divisor) := by
  refine F.ok sc_common_divisor (fun vs H Q E h => ?_) (fun cdv A outer s H vs Q E hr h => ?_)
  · obtain ⟨a, b, rfl, k⟩ := h
    rfl
  · obtain ⟨a, b, rfl, k⟩ := h
    have nd := sc_common_divisor.nd
    refine ⟨_, (pss_cons (ps_while PassesOwn.never (pt_cmpR op_ne (pv 1) pe_int (nomark _)) (pss_cons (ps_set (i := 2) nd rfl (Or.inl rfl) (pe_op op_modN (pv 0) (pv 1))) (pss_cons (ps_set (i := 0) nd rfl (Or.inl rfl) (pv 1)) (pss_one (ps_set (i := 1) nd rfl (Or.inl rfl) (pv 2)))))) (pss_one (ps_ret (pv 0)))), ?_⟩
    refine while_by (fun σ H' => H' = H ∧ ∃ (a' b' : Nat) (v : Option V), σ = [some (.int (a' : Int)), some (.int (b' : Int)), v] ∧ Nat.gcd a' b' = Nat.gcd a b)
      (fun σ _ => match σ with | [_, some (.int i), _] => i.toNat | _ => 0) ⟨rfl, a, b, none, rfl, rfl⟩ ?_ ?_
    · rintro σ H' ⟨rfl, a', b', v, rfl, e⟩
      refine ⟨_, rfl, rfl, _, rfl, ?_⟩
      refine tif (fun c => ?_) (fun c => ?_)
      · have hb : (b' : Int) ≠ 0 := fun z => by rw [z] at c; simp at c
        refine ⟨_, rfl, _, rfl, _, _, rfl, rfl, hb, _, rfl, _, rfl, ⟨rfl, b', a' % b', some (.int ((a' % b' : Nat) : Int)), by rw [← fmod_nat]; rfl, ?_⟩, ?_⟩
        · rw [← e, Nat.gcd_comm a' b', Nat.gcd_rec b' a', Nat.gcd_comm]
        · show (Int.fmod (a' : Int) (b' : Int)).toNat < (b' : Int).toNat
          rw [fmod_nat]
          have := Nat.mod_lt a' (show b' > 0 by omega)
          omega
      · have hb : (b' : Int) = 0 := by simpa using c
        have hb : b' = 0 := by omega
        subst hb
        refine ⟨_, rfl, ?_⟩
        rw [Nat.gcd_zero_right] at e
        subst e
        exact k
    · rintro σ H Q Q' h ⟨v, hv, e, k, hk, q⟩
      exact ⟨v, hv, e, k, hk, h _ _ q⟩
/-! divided -/
def sp_divided : Sp := fun vs H Q _ => ∃ (a : Addr) (r : List Nat) (g : Nat), vs = [.ref a, .int (g : Int)] ∧ H a = some (.lst (iv r)) ∧ 0 < g ∧ g < 2 ^ 64 ∧ r.length ≤ 1000 ∧
  ∀ H' q, Same H H' → H q = none → H' q = some (.lst (iv (r.map fun n => n / g))) → Q (.ref q) H'
theorem ok_divided {f : Addr} {fd : FuncData} (F : Fun K "divided" "divided" s_divided f fd) (T : Txt K mg CPicture CDesk)  : FnOk P w K mg base CX0 1 f fd ["row", "divisor"] (sp_divided) := by
  refine F.ok sc_divided (fun vs H Q E h => ?_) (fun cdv A outer s H vs Q E hr h => ?_)
  · obtain ⟨a, r, g, rfl, ha, hg, hg2, hl, k⟩ := h
    rfl
  · obtain ⟨a, r, g, rfl, ha, hg, hg2, hl, k⟩ := h
    have nd := sc_divided.nd
    refine ⟨_, (pss_one (ps_ret (pe_lc (own := [("cell", 2)]) (g := (gName 2)) (tt := tYes) (te := (tOp _ (tVar 2) (tVar 1))) rfl nd (pi_list (pv 0)) (blkOk_by (own := [("cell", 2)]) (N := ["row", "divisor", "cell"]) (sc := defScope s_divided) (by decide +kernel)) (fun _ _ _ _ _ => (pg_name (i := 2) nd rfl (Or.inl rfl))) (fun _ _ _ _ _ => pts_nil) (fun _ _ _ _ _ => (pe_op op_fdivW (pv 2) (pv 1)))))), ?_⟩
    refine ⟨_, rfl, a, rfl, ⟨_, SqL.of ha⟩, fun D hD => ?_⟩
    refine lc_int (walk_list (K := K) (a := a) (xs := iv r)) (fun i => r.getD i 0 / g) hD (by rw [iv_len]; exact Nat.le_trans hl (by decide)) (fun H' s => SqL.of (s _ _ ha)) (fun i H x H' y => by rw [y.1]; exact Same.refl _) ?_ (gName_mono 2) ?_
    · rintro i x H2 H3 Q' hi s ⟨rfl, hx⟩ hq
      obtain ⟨n, hn, rfl⟩ := iv_of hx
      refine ⟨rfl, _, rfl, _, rfl, _, _, rfl, rfl, wide_div (b := 64) (by omega) (by simpa using hg2) (by decide) (by decide), ?_⟩
      have := hq H3 (Same.refl _)
      simpa [List.getD, hn] using this
    · intro H2 s hD2
      refine k H2 D s hD ?_
      rw [hD2]
      congr 3
      rw [iv_len]
      apply List.ext_getElem?
      intro i
      by_cases hi : i < r.length
      · simp [List.getElem?_map, List.getElem?_range hi, List.getElem?_eq_getElem hi, List.getD]
      · rw [List.getElem?_eq_none (by simp; omega), List.getElem?_eq_none (by simp; omega)]
/-! Picture -/
def sp_Picture (C : Addr) : Sp := fun vs H Q _ => ∃ (x dx : Addr) (d : Nat) (p : Addr), vs = [.ref x, .int (d : Int), .ref p] ∧ H x = some (.ins C dx []) ∧
  ∀ H' : Hp, H' x = some (.ins C dx (pf d p)) → (∀ b o, H b = some o → b ≠ x → H' b = some o) → Q .non H'
theorem ok_Picture_init {f : Addr} {fd : FuncData} (F : Fun K "__init__" "Picture.__init__" s_Picture_init f fd) (T : Txt K mg CPicture CDesk)  : FnOk P w K mg base CX0 1 f fd ["self", "d", "rows"] (sp_Picture CPicture) := by
  refine F.ok sc_Picture_init (fun vs H Q E h => ?_) (fun cdv A outer s H vs Q E hr h => ?_)
  · obtain ⟨x, dx, d, p, rfl, hx, k⟩ := h
    rfl
  · obtain ⟨x, dx, d, p, rfl, hx, k⟩ := h
    have nd := sc_Picture_init.nd
    refine ⟨_, (pss_cons (ps_fld (pv 0) (pv 1) rfl) (pss_one (ps_fld (pv 0) (pv 2) rfl))), ?_⟩
    refine ⟨_, rfl, _, rfl, x, CPicture, dx, [], rfl, hx, T.clPicture, T.nD, (by show 0 < 1000; decide), ?_⟩
    refine ⟨_, rfl, _, rfl, x, CPicture, dx, _, rfl, upd_same, T.clPicture, T.nR, (by show 1 < 1000; decide), ?_⟩
    exact k _ (Eq.trans upd_same (congrArg (fun q => some (HO.ins CPicture dx q)) (pf_new d p))) fun b o e hb => by
      rw [upd_ne hb, upd_ne hb]
      exact e
/-- Picture(d, rows): from its __init__'s promise -/
theorem made_picture {C : Addr} {H : Hp} {d : Nat} {p : Addr} {rows : Rows} {Q : VK} (hR : RowsAt H p rows) (k : ∀ H' a, Same H H' → PicAt C H' a d rows → Q (.ref a) H') :
    ∀ (x dx : Addr), H x = none → H dx = none → dx ≠ x → sp_Picture C (.ref x :: [.int (d : Int), .ref p]) (upd (upd H dx (.own x)) x (.ins C dx [])) (fun v H' => v = .non ∧ Q (.ref x) H') (fun _ _ _ => False) := by
  intro x dx nx ndx ne
  refine ⟨x, dx, d, p, rfl, upd_same, fun H1 J kp => ⟨rfl, ?_⟩⟩
  have s1 : Same H H1 := Same.made nx ndx kp
  exact k H1 x s1 ⟨dx, p, J, hR.same s1⟩
def sp_width (C : Addr) : Sp := fun vs H Q _ => ∃ (a : Addr) (d : Nat) (rows : Rows) (r : List Nat), vs = [.ref a] ∧ PicAt C H a d rows ∧ rows[0]? = some r ∧ Q (.int (r.length : Int)) H
theorem RowsAt.row {H : Hp} {p : Addr} {rows : Rows} (h : RowsAt H p rows) {i : Nat} {r : List Nat} (hi : rows[i]? = some r) : ∃ (vs : List V) (q : Addr), H p = some (.lst vs) ∧ vs[i]? = some (.ref q) ∧ H q = some (.lst (iv r)) ∧ vs.length = rows.length := by
  obtain ⟨qs, h1, h2, h3⟩ := h
  have hl : i < qs.length := by
    have := (List.getElem?_eq_some_iff.mp hi).1
    omega
  refine ⟨_, qs[i], h1, by simp [List.getElem?_map, List.getElem?_eq_getElem hl], h3 i _ r (List.getElem?_eq_getElem hl) hi, by simp [h2]⟩
theorem ok_Picture_width {f : Addr} {fd : FuncData} (F : Fun K "width" "Picture.width" s_Picture_width f fd) (T : Txt K mg CPicture CDesk)  : FnOk P w K mg base CX0 1 f fd ["self"] (sp_width CPicture) := by
  refine F.ok sc_Picture_width (fun vs H Q E h => ?_) (fun cdv A outer s H vs Q E hr h => ?_)
  · obtain ⟨a, d, rows, r, rfl, ⟨dx, p, ha, hR⟩, h0, k⟩ := h
    rfl
  · obtain ⟨a, d, rows, r, rfl, ⟨dx, p, ha, hR⟩, h0, k⟩ := h
    have nd := sc_Picture_width.nd
    refine ⟨_, (pss_one (ps_ret (pe_callB call_len_seq (by rfl) T.len PySem.boot_len (pa_cons (pe_ix ix_list (pe_fld (pv 0) rfl) pe_int (fun _ _ => rfl)) pa_nil)))), ?_⟩
    obtain ⟨vs, q, hp, hv, hq, _⟩ := hR.row h0
    refine ⟨_, rfl, a, CPicture, dx, _, _, rfl, ha, T.clPicture, T.nR, pf_rows _ _, p, _, _, _, rfl, rfl, SqL.of hp, at_of (j := 0) rfl hv, q, _, rfl, .inl (SqL.of hq), ?_⟩
    rw [iv_len]
    exact k
def sp_height (C : Addr) : Sp := fun vs H Q _ => ∃ (a : Addr) (d : Nat) (rows : Rows), vs = [.ref a] ∧ PicAt C H a d rows ∧ Q (.int (rows.length : Int)) H
theorem ok_Picture_height {f : Addr} {fd : FuncData} (F : Fun K "height" "Picture.height" s_Picture_height f fd) (T : Txt K mg CPicture CDesk)  : FnOk P w K mg base CX0 1 f fd ["self"] (sp_height CPicture) := by
  refine F.ok sc_Picture_height (fun vs H Q E h => ?_) (fun cdv A outer s H vs Q E hr h => ?_)
  · obtain ⟨a, d, rows, rfl, _⟩ := h
    rfl
  · obtain ⟨a, d, rows, rfl, ⟨dx, p, ha, qs, hp, hl, _⟩, k⟩ := h
    have nd := sc_Picture_height.nd
    refine ⟨_, (pss_one (ps_ret (pe_callB call_len_seq (by rfl) T.len PySem.boot_len (pa_cons (pe_fld (pv 0) rfl) pa_nil)))), ?_⟩
    refine ⟨_, rfl, a, CPicture, dx, _, _, rfl, ha, T.clPicture, T.nR, pf_rows _ _, p, _, rfl, .inl (SqL.of hp), ?_⟩
    rw [List.length_map, hl]
    exact k
/-! in_lowest_terms -/
def sp_in_lowest_terms (C : Addr) : Sp := fun vs H Q _ => ∃ (d : Nat) (p : Addr) (rows : Rows), vs = [.int (d : Int), .ref p] ∧ RowsAt H p rows ∧ 0 < d ∧ d < 2 ^ 64 ∧ rows.length ≤ 1000 ∧ (∀ r ∈ rows, r.length ≤ 1000) ∧
  ∀ H' a, Same H H' → PicAt C H' a (lowD d rows) (lowR d rows) → Q (.ref a) H'
theorem ok_in_lowest_terms {f : Addr} {fd : FuncData} (F : Fun K "in_lowest_terms" "in_lowest_terms" s_in_lowest_terms f fd) (T : Txt K mg CPicture CDesk) (f_Picture_init : Ma P w K mg base 1 CPicture ["self", "d", "rows"] (sp_Picture CPicture)) (f_common_divisor : Fn P w K mg base 1 "common_divisor" ["first", "second"] (sp_common_divisor)) (f_divided : Fn P w K mg base 1 "divided" ["row", "divisor"] (sp_divided)) : FnOk P w K mg base CX0 3 f fd ["d", "rows"] (sp_in_lowest_terms CPicture) := by
  refine F.ok sc_in_lowest_terms (fun vs H Q E h => ?_) (fun cdv A outer s H vs Q E hr h => ?_)
  · obtain ⟨d, p, rows, rfl, hR, hd, hd2, hl, hl2, k⟩ := h
    rfl
  · obtain ⟨d, p, rows, rfl, hR, hd, hd2, hl, hl2, k⟩ := h
    obtain ⟨a_Picture_init, d_Picture_init, G_Picture_init, M_Picture_init, b_Picture_init⟩ := f_Picture_init
    obtain ⟨a_common_divisor, d_common_divisor, G_common_divisor, m_common_divisor, k_common_divisor, b_common_divisor⟩ := f_common_divisor
    obtain ⟨a_divided, d_divided, G_divided, m_divided, k_divided, b_divided⟩ := f_divided
    have nd := sc_in_lowest_terms.nd
    refine ⟨_, (pss_cons (ps_set (i := 2) nd rfl (Or.inr rfl) (pv 0)) (pss_cons (ps_for PassesOwn.never rfl (pi_list (pv 1)) (pg_name (i := 3) nd rfl (Or.inl rfl)) (pss_one (ps_for PassesOwn.never rfl (pi_list (pv 3)) (pg_name (i := 4) nd rfl (Or.inl rfl)) (pss_one (ps_set (i := 2) nd rfl (Or.inr rfl) (pe_call G_common_divisor (hr.mono (by decide)) rfl m_common_divisor k_common_divisor b_common_divisor .nil pass0 (pa_cons (pv 2) (pa_cons (pv 4) pa_nil)))))))) (pss_one (ps_ret (pe_make M_Picture_init G_Picture_init (hr.mono (by decide)) rfl T.gPicture b_Picture_init .nil pass0 (pa_cons (pe_op op_fdivW (pv 0) (pv 2)) (pa_cons (pe_lc (own := [("row", 3)]) (g := (gName 3)) (tt := tYes) (te := _) rfl nd (pi_list (pv 1)) (blkOk_by (own := [("row", 3)]) (N := ["d", "rows", "divisor", "row", "cell"]) (sc := defScope s_in_lowest_terms) (by decide +kernel)) (fun _ _ _ _ _ => (pg_name (i := 3) nd rfl (Or.inl rfl))) (fun _ _ _ _ _ => pts_nil) (fun _ _ _ _ _ => (pe_call G_divided (hr.mono (by decide)) rfl m_divided k_divided b_divided .nil pass0 (pa_cons (pv 3) (pa_cons (pv 2) pa_nil))))) pa_nil))))))), ?_⟩
    have hR' := hR
    obtain ⟨qs, hp, hql, hq⟩ := hR
    refine ⟨_, rfl, _, rfl, p, rfl, ⟨_, SqL.of hp⟩, for_list (K := K) (a := p) (xs := qs.map V.ref)
      (fun i σ H' => H' = H ∧ ∃ v3 v4 : Option V, σ = [some (.int (d : Int)), some (.ref p), some (.int ((gcdR d (rows.take i) : Nat) : Int)), v3, v4]) ⟨rfl, none, none, rfl⟩ (fun i σ H' _ h => by rw [h.1]; exact SqL.of hp) ?_ ?_⟩
    · rintro i x σ H' hx ⟨rfl, v3, v4, rfl⟩
      obtain ⟨q, hqi, rfl⟩ := refs_of hx
      have hi : i < rows.length := by
        have := (List.getElem?_eq_some_iff.mp hqi).1
        omega
      have hri := List.getElem?_eq_getElem hi
      have hqq := hq i q _ hqi hri
      refine ⟨_, rfl, q, rfl, ⟨_, SqL.of hqq⟩, for_list (K := K) (a := q) (xs := iv rows[i])
        (fun j σ H'' => H'' = H' ∧ ∃ v4 : Option V, σ = [some (.int (d : Int)), some (.ref p), some (.int (((rows[i].take j).foldl Nat.gcd (gcdR d (rows.take i)) : Nat) : Int)), some (.ref q), v4]) ⟨rfl, v4, rfl⟩ (fun j σ H'' _ h => by rw [h.1]; exact SqL.of hqq) ?_ ?_⟩
      · rintro j y σ H'' hy ⟨rfl, v4, rfl⟩
        obtain ⟨n, hn, rfl⟩ := iv_of hy
        refine ⟨_, rfl, _, rfl, _, _, rfl, rfl, some (.int (n : Int)), ?_⟩
        rw [take_more hn, List.foldl_append]
        rfl
      · rintro σ H'' ⟨rfl, v4, rfl⟩
        refine ⟨rfl, some (.ref q), v4, ?_⟩
        rw [take_more hri, iv_len, List.take_length]
        unfold gcdR
        rw [List.foldl_append]
        rfl
    · rintro σ H' ⟨rfl, v3, v4, rfl⟩
      rw [List.length_map, hql, List.take_length]
      have hg := gcdR_pos rows hd
      have hg2 := gcdR_le rows hd
      refine ⟨_, rfl, _, rfl, _, _, rfl, rfl, wide_div (b := 64) (by omega) (by show (Int.natAbs ((gcdR d rows : Nat) : Int)) < 2 ^ 64; rw [Int.natAbs_natCast]; omega) (by decide) (by decide), ?_⟩
      refine ⟨_, rfl, p, rfl, ⟨_, SqL.of hp⟩, fun D hD => ?_⟩
      refine lc_row (walk_list (K := K) (a := p) (xs := qs.map V.ref)) (fun i => (rows.getD i []).map fun n => n / gcdR d rows) hD (by rw [List.length_map, hql]; exact Nat.le_trans hl (by decide)) (fun H2 s => SqL.of (s _ _ hp)) (fun i H x H' y => by rw [y.1]; exact Same.refl _) ?_ (gName_mono 3) ?_
      · rintro i x H2 H3 Q' hi s ⟨rfl, hx⟩ hQ
        obtain ⟨q, hqi, rfl⟩ := refs_of hx
        have hi : i < rows.length := by
          have := (List.getElem?_eq_some_iff.mp hqi).1
          omega
        have hri := List.getElem?_eq_getElem hi
        have e : rows.getD i [] = rows[i] := by simp [List.getD, hri]
        rw [e] at hQ
        exact ⟨rfl, _, rfl, _, rfl, q, rows[i], gcdR d rows, rfl, s _ _ (hq i q _ hqi hri), hg, by omega, hl2 _ (List.getElem_mem hi), fun H5 q5 s5 n5 e5 => hQ H5 q5 s5 n5 e5⟩
      · intro H2 s hD2
        have e : (List.range (qs.map V.ref).length).map (fun i => (rows.getD i []).map fun n => n / gcdR d rows) = lowR d rows := by
          rw [List.length_map, hql]
          exact map_range_rows rows fun r => r.map fun n => n / gcdR d rows
        rw [e] at hD2
        exact made_picture (d := lowD d rows) hD2 fun H3 a s3 hA => k H3 a (s.trans s3) hA
/-! column, columns -/
def sp_column : Sp := fun vs H Q _ => ∃ (p : Addr) (rows : Rows) (x : Nat), vs = [.ref p, .int (x : Int)] ∧ RowsAt H p rows ∧ (∀ r ∈ rows, x < r.length) ∧ rows.length ≤ 1000 ∧
  ∀ H' q, Same H H' → H q = none → H' q = some (.lst (iv (rows.map fun r => r.getD x 0))) → Q (.ref q) H'
theorem ok_column {f : Addr} {fd : FuncData} (F : Fun K "column" "column" s_column f fd) (T : Txt K mg CPicture CDesk)  : FnOk P w K mg base CX0 1 f fd ["rows", "x"] (sp_column) := by
  refine F.ok sc_column (fun vs H Q E h => ?_) (fun cdv A outer s H vs Q E hr h => ?_)
  · obtain ⟨p, rows, x, rfl, _⟩ := h
    rfl
  · obtain ⟨p, rows, x, rfl, ⟨qs, hp, hql, hq⟩, hx, hl, k⟩ := h
    have nd := sc_column.nd
    refine ⟨_, (pss_one (ps_ret (pe_lc (own := [("row", 2)]) (g := (gName 2)) (tt := tYes) (te := (tOp (rIxL K) (tVar 2) (tVar 1))) rfl nd (pi_list (pv 0)) (blkOk_by (own := [("row", 2)]) (N := ["rows", "x", "row"]) (sc := defScope s_column) (by decide +kernel)) (fun _ _ _ _ _ => (pg_name (i := 2) nd rfl (Or.inl rfl))) (fun _ _ _ _ _ => pts_nil) (fun _ _ _ _ _ => (pe_ix ix_list (pv 2) (pv 1) (fun _ _ => rfl)))))), ?_⟩
    refine ⟨_, rfl, p, rfl, ⟨_, SqL.of hp⟩, fun D hD => ?_⟩
    refine lc_int (walk_list (K := K) (a := p) (xs := qs.map V.ref)) (fun i => (rows.getD i []).getD x 0) hD (by rw [List.length_map, hql]; exact Nat.le_trans hl (by decide)) (fun H2 s => SqL.of (s _ _ hp)) (fun i H x H' y => by rw [y.1]; exact Same.refl _) ?_ (gName_mono 2) ?_
    · rintro i y H2 H3 Q' hi s ⟨rfl, hy⟩ hQ
      obtain ⟨q, hqi, rfl⟩ := refs_of hy
      have hi : i < rows.length := by
        have := (List.getElem?_eq_some_iff.mp hqi).1
        omega
      have hri := List.getElem?_eq_getElem hi
      have hxr := hx _ (List.getElem_mem hi)
      have e : (rows.getD i []).getD x 0 = rows[i][x] := by simp [List.getD, hri, List.getElem?_eq_getElem hxr]
      rw [e] at hQ
      exact ⟨rfl, _, rfl, _, rfl, q, _, _, _, rfl, rfl, SqL.of (s _ _ (hq i q _ hqi hri)), at_of (j := x) rfl (iv_get (List.getElem?_eq_getElem hxr)), hQ _ (Same.refl _)⟩
    · intro H2 s hD2
      have e : (List.range (qs.map V.ref).length).map (fun i => (rows.getD i []).getD x 0) = rows.map fun r => r.getD x 0 := by
        rw [List.length_map, hql]
        exact map_range_rows rows fun r => r.getD x 0
      rw [e] at hD2
      exact k H2 D s hD hD2
def sp_columns : Sp := fun vs H Q _ => ∃ (p : Addr) (rows : Rows) (w h : Nat), vs = [.ref p] ∧ RowsAt H p rows ∧ Ok w h rows ∧ 0 < h ∧ w ≤ 1000 ∧ h ≤ 1000 ∧
  ∀ H' q, Same H H' → H q = none → RowsAt H' q (cols rows) → Q (.ref q) H'
theorem ok_columns {f : Addr} {fd : FuncData} (F : Fun K "columns" "columns" s_columns f fd) (T : Txt K mg CPicture CDesk) (f_column : Fn P w K mg base 1 "column" ["rows", "x"] (sp_column)) : FnOk P w K mg base CX0 2 f fd ["rows"] (sp_columns) := by
  refine F.ok sc_columns (fun vs H Q E h => ?_) (fun cdv A outer s H vs Q E hr h => ?_)
  · obtain ⟨p, rows, w, h, rfl, hR, ok, hh, hw2, hh2, k⟩ := h
    rfl
  · obtain ⟨p, rows, w, h, rfl, hR, ok, hh, hw2, hh2, k⟩ := h
    obtain ⟨a_column, d_column, G_column, m_column, k_column, b_column⟩ := f_column
    have nd := sc_columns.nd
    refine ⟨_, (pss_one (ps_ret (pe_lc (own := [("x", 1)]) (g := (gName 1)) (tt := tYes) (te := _) rfl nd (pi_range1 (by rfl) T.range (pa_cons (pe_callB call_len_seq (by rfl) T.len PySem.boot_len (pa_cons (pe_ix ix_list (pv 0) pe_int (fun _ _ => rfl)) pa_nil)) pa_nil)) (blkOk_by (own := [("x", 1)]) (N := ["rows", "x"]) (sc := defScope s_columns) (by decide +kernel)) (fun _ _ _ _ _ => (pg_name (i := 1) nd rfl (Or.inl rfl))) (fun _ _ _ _ _ => pts_nil) (fun _ _ _ _ _ => (pe_call G_column (hr.mono (by decide)) rfl m_column k_column b_column .nil pass0 (pa_cons (pv 0) (pa_cons (pv 1) pa_nil))))))), ?_⟩
    have h0 : 0 < rows.length := by rw [ok.len]; exact hh
    have hr0 := List.getElem?_eq_getElem h0
    obtain ⟨vs, q, hp, hv, hq, _⟩ := hR.row hr0
    have hlen : ((iv rows[0]).length : Int) = (w : Int) := by rw [iv_len, ok.row _ (List.getElem_mem h0)]
    refine ⟨_, rfl, p, _, _, _, rfl, rfl, SqL.of hp, at_of (j := 0) rfl hv, q, _, rfl, .inl (SqL.of hq), (w : Int), by rw [hlen], by omega, by omega, fun D hD => ?_⟩
    refine lc_row (walk_rng (n := w)) (fun i => rows.map fun r => r.getD i 0) hD (Nat.le_trans hw2 (by decide)) (fun H2 s => trivial) (fun i H x H' y => by rw [y.1]; exact Same.refl _) ?_ (gName_mono 1) ?_
    · rintro i y H2 H3 Q' hi s ⟨rfl, rfl⟩ hQ
      refine ⟨rfl, _, rfl, _, rfl, p, rows, i, rfl, hR.same s, fun r hr => by rw [ok.row r hr]; exact hi, by rw [ok.len]; exact hh2, fun H5 q5 s5 n5 e5 => hQ H5 q5 s5 n5 e5⟩
    · intro H2 s hD2
      rw [← cols_grid ok hh] at hD2
      exact k H2 D s hD hD2
end
end Pa

set_option Elab.async false
set_option maxRecDepth 100000
set_option maxHeartbeats 4000000
set_option linter.all false
namespace Pa
open PySem PySem.Spec PyProof.Rows L2
section
variable {P : Program} {w : World} {K : PySem.W.Frag} {mg : Str → Option Value} {base : Heap} {CPicture CDesk : Addr}
/-- the weights of one new column -/
def sp_weights (wt : Nat → Nat → Nat → List Nat) : Sp := fun vs H Q _ => ∃ (old new place : Nat), vs = [.int (old : Int), .int (new : Int), .int (place : Int)] ∧ 0 < old ∧ old ≤ 1000 ∧ 0 < new ∧ new ≤ 1000 ∧ place < new ∧
  ∀ H' q, Same H H' → H q = none → H' q = some (.lst (iv (wt old new place))) → Q (.ref q) H'
theorem share_int (old new place x : Nat) : (if (if ((x : Int) * new + new) < ((place : Int) * old + old) then ((x : Int) * new + new) else ((place : Int) * old + old)) - (if ((x : Int) * new) > ((place : Int) * old) then ((x : Int) * new) else ((place : Int) * old)) > 0 then
    (if ((x : Int) * new + new) < ((place : Int) * old + old) then ((x : Int) * new + new) else ((place : Int) * old + old)) - (if ((x : Int) * new) > ((place : Int) * old) then ((x : Int) * new) else ((place : Int) * old)) else 0) = ((Ie05.share old new place x : Nat) : Int) := by
  unfold Ie05.share
  rw [Nat.add_mul, Nat.add_mul, Nat.one_mul, Nat.one_mul]
  have e1 : ((x : Int) * new) = ((x * new : Nat) : Int) := by simp
  have e2 : ((place : Int) * old) = ((place * old : Nat) : Int) := by simp
  rw [e1, e2]
  generalize x * new = a
  generalize place * old = b
  split <;> split <;> split <;> omega
theorem ok_area_weights {f : Addr} {fd : FuncData} (F : Fun K "area_weights" "area_weights" s_area_weights f fd) (T : Txt K mg CPicture CDesk)  : FnOk P w K mg base CX0 1 f fd ["old", "new", "place"] (sp_weights areaW) := by
  refine F.ok sc_area_weights (fun vs H Q E h => ?_) (fun cdv A outer s H vs Q E hr h => ?_)
  · obtain ⟨old, new, place, rfl, ho, ho2, hn, hn2, hp, k⟩ := h
    rfl
  · obtain ⟨old, new, place, rfl, ho, ho2, hn, hn2, hp, k⟩ := h
    have nd := sc_area_weights.nd
    refine ⟨_, (pss_cons (ps_set (i := 3) nd rfl (Or.inr rfl) (pe_op op_mul (pv 2) (pv 0))) (pss_cons (ps_set (i := 4) nd rfl (Or.inr rfl) (pe_op op_add (pv 3) (pv 0))) (pss_one (ps_ret (pe_lc (own := [("x", 5)]) (g := (gName 5)) (tt := tYes) (te := _) rfl nd (pi_range1 (by rfl) T.range (pa_cons (pv 0) pa_nil)) (blkOk_by (own := [("x", 5)]) (N := ["old", "new", "place", "start", "end", "x"]) (sc := defScope s_area_weights) (by decide +kernel)) (fun _ _ _ _ _ => (pg_name (i := 5) nd rfl (Or.inl rfl))) (fun _ _ _ _ _ => pts_nil) (fun _ _ _ _ _ => (pe_callB (call_max2 rfl) (by rfl) T.max (by decide +kernel) (pa_cons pe_int (pa_cons (pe_op op_sub (pe_callB (call_min2 rfl) (by rfl) T.min (by decide +kernel) (pa_cons (pv 4) (pa_cons (pe_op op_add (pe_op op_mul (pv 5) (pv 1)) (pv 1)) pa_nil))) (pe_callB (call_max2 rfl) (by rfl) T.max (by decide +kernel) (pa_cons (pv 3) (pa_cons (pe_op op_mul (pv 5) (pv 1)) pa_nil)))) pa_nil))))))))), ?_⟩
    refine ⟨_, rfl, _, rfl, _, _, rfl, rfl, cmul_l (by omega), _, rfl, _, rfl, _, _, rfl, rfl, _, rfl, (old : Int), rfl, by omega, by omega, fun D hD => ?_⟩
    refine lc_int (walk_rng (n := old)) (fun i => Ie05.share old new place i) hD (Nat.le_trans ho2 (by decide)) (fun H2 s => trivial) (fun i H x H' y => by rw [y.1]; exact Same.refl _) ?_ (gName_mono 5) ?_
    · rintro i y H2 H3 Q' hi s ⟨rfl, rfl⟩ hQ
      have hQ := hQ _ (Same.refl _)
      rw [← share_int] at hQ
      refine ⟨rfl, _, rfl, _, rfl, _, rfl, _, _, rfl, rfl, cmul_l (by omega), _, rfl, _, _, rfl, rfl, _, _, rfl, _, rfl, _, rfl, _, rfl, _, _, rfl, rfl, cmul_l (by omega), _, _, rfl, _, _, rfl, rfl, _, _, rfl, ?_⟩
      exact hQ
    · intro H2 s hD2
      exact k H2 D s hD hD2
theorem ok_nearest_weights {f : Addr} {fd : FuncData} (F : Fun K "nearest_weights" "nearest_weights" s_nearest_weights f fd) (T : Txt K mg CPicture CDesk)  : FnOk P w K mg base CX0 1 f fd ["old", "new", "place"] (sp_weights nearW) := by
  refine F.ok sc_nearest_weights (fun vs H Q E h => ?_) (fun cdv A outer s H vs Q E hr h => ?_)
  · obtain ⟨old, new, place, rfl, ho, ho2, hn, hn2, hp, k⟩ := h
    rfl
  · obtain ⟨old, new, place, rfl, ho, ho2, hn, hn2, hp, k⟩ := h
    have nd := sc_nearest_weights.nd
    refine ⟨_, (pss_cons (ps_set (i := 3) nd rfl (Or.inr rfl) (pe_op op_fdivW (pe_op op_mul (pe_op op_add (pe_op op_mul pe_int (pv 2)) pe_int) (pv 0)) (pe_op op_mul pe_int (pv 1)))) (pss_one (ps_ret (pe_lc (own := [("x", 4)]) (g := (gName 4)) (tt := tYes) (te := (tIf _ (tC (.int 1)) (tC (.int 0)))) rfl nd (pi_range1 (by rfl) T.range (pa_cons (pv 0) pa_nil)) (blkOk_by (own := [("x", 4)]) (N := ["old", "new", "place", "nearest", "x"]) (sc := defScope s_nearest_weights) (by decide +kernel)) (fun _ _ _ _ _ => (pg_name (i := 4) nd rfl (Or.inl rfl))) (fun _ _ _ _ _ => pts_nil) (fun _ _ _ _ _ => (pe_ifExp (pt_cmpR op_eq (pv 4) (pv 3) (nomark _)) pe_int pe_int)))))), ?_⟩
    refine ⟨_, rfl, _, _, rfl, rfl, cmul_l (a := 2) (by omega), _, _, rfl, rfl, _, rfl, _, _, rfl, rfl, .inl ⟨by omega, by omega⟩, _, rfl, _, _, rfl, rfl, cmul_l (a := 2) (by omega), _, _, rfl, rfl, wide_div (b := 64) (by omega) (by omega) (by decide) (by decide), ?_⟩
    have ed : (2 * (place : Int) + 1) * (old : Int) / (2 * (new : Int)) = (((2 * place + 1) * old / (2 * new) : Nat) : Int) := by
      simp
    refine ⟨_, rfl, (old : Int), rfl, by omega, by omega, fun D hD => ?_⟩
    refine lc_int (walk_rng (n := old)) (fun i => if i = (2 * place + 1) * old / (2 * new) then 1 else 0) hD (Nat.le_trans ho2 (by decide)) (fun H2 s => trivial) (fun i H x H' y => by rw [y.1]; exact Same.refl _) ?_ (gName_mono 4) ?_
    · rintro i y H2 H3 Q' hi s ⟨rfl, rfl⟩ hQ
      have hQ := hQ _ (Same.refl _)
      refine ⟨rfl, _, rfl, _, rfl, rfl, _, rfl, ?_⟩
      refine tif (fun c => ?_) (fun c => ?_)
      · have c := (int_eq c).trans ed
        have c : i = (2 * place + 1) * old / (2 * new) := by omega
        rw [if_pos c] at hQ
        exact hQ
      · have c := int_ne c
        rw [ed] at c
        have c : ¬ i = (2 * place + 1) * old / (2 * new) := by omega
        rw [if_neg c] at hQ
        exact hQ
    · intro H2 s hD2
      exact k H2 D s hD hD2
theorem inside_int (old new place : Nat) (ho : 0 < old) : (if (2 * (new : Int)) * ((old : Int) - 1) < (if 0 > (2 * (place : Int) + 1) * (old : Int) - (new : Int) then 0 else (2 * (place : Int) + 1) * (old : Int) - (new : Int)) then (2 * (new : Int)) * ((old : Int) - 1) else
    (if 0 > (2 * (place : Int) + 1) * (old : Int) - (new : Int) then 0 else (2 * (place : Int) + 1) * (old : Int) - (new : Int))) = ((inside old new place : Nat) : Int) := by
  unfold inside
  have e1 : (2 * (new : Int)) * ((old : Int) - 1) = ((2 * new * (old - 1) : Nat) : Int) := by
    rw [Int.natCast_mul, Int.natCast_mul, Int.natCast_sub ho]
    rfl
  have e2 : (2 * (place : Int) + 1) * (old : Int) = (((2 * place + 1) * old : Nat) : Int) := by simp
  rw [e1, e2]
  generalize 2 * new * (old - 1) = a
  generalize (2 * place + 1) * old = b
  split <;> split <;> omega
theorem betw_int (t s a : Nat) (x : Int) (hx : x = ((a : Nat) : Int)) : (if (s : Int) - (if (t : Int) - x < 0 then -((t : Int) - x) else (t : Int) - x) > 0 then (s : Int) - (if (t : Int) - x < 0 then -((t : Int) - x) else (t : Int) - x) else 0) = ((s - (t - a) - (a - t) : Nat) : Int) := by
  subst hx
  split <;> split <;> omega
theorem ok_between_weights {f : Addr} {fd : FuncData} (F : Fun K "between_weights" "between_weights" s_between_weights f fd) (T : Txt K mg CPicture CDesk)  : FnOk P w K mg base CX0 1 f fd ["old", "new", "place"] (sp_weights betwW) := by
  refine F.ok sc_between_weights (fun vs H Q E h => ?_) (fun cdv A outer s H vs Q E hr h => ?_)
  · obtain ⟨old, new, place, rfl, ho, ho2, hn, hn2, hp, k⟩ := h
    rfl
  · obtain ⟨old, new, place, rfl, ho, ho2, hn, hn2, hp, k⟩ := h
    have nd := sc_between_weights.nd
    refine ⟨_, (pss_cons (ps_set (i := 3) nd rfl (Or.inr rfl) (pe_op op_mul pe_int (pv 1))) (pss_cons (ps_set (i := 4) nd rfl (Or.inl rfl) (pe_op op_sub (pe_op op_mul (pe_op op_add (pe_op op_mul pe_int (pv 2)) pe_int) (pv 0)) (pv 1))) (pss_cons (ps_set (i := 5) nd rfl (Or.inr rfl) (pe_callB (call_min2 rfl) (by rfl) T.min (by decide +kernel) (pa_cons (pe_callB (call_max2 rfl) (by rfl) T.max (by decide +kernel) (pa_cons (pv 4) (pa_cons pe_int pa_nil))) (pa_cons (pe_op op_mul (pv 3) (pe_op op_sub (pv 0) pe_int)) pa_nil)))) (pss_one (ps_ret (pe_lc (own := [("x", 6)]) (g := (gName 6)) (tt := tYes) (te := _) rfl nd (pi_range1 (by rfl) T.range (pa_cons (pv 0) pa_nil)) (blkOk_by (own := [("x", 6)]) (N := ["old", "new", "place", "step", "middle", "inside", "x"]) (sc := defScope s_between_weights) (by decide +kernel)) (fun _ _ _ _ _ => (pg_name (i := 6) nd rfl (Or.inl rfl))) (fun _ _ _ _ _ => pts_nil) (fun _ _ _ _ _ => (pe_callB (call_max2 rfl) (by rfl) T.max (by decide +kernel) (pa_cons pe_int (pa_cons (pe_op op_sub (pv 3) (pe_callB call_abs (by rfl) T.abs (by decide +kernel) (pa_cons (pe_op op_sub (pv 5) (pe_op op_mul (pv 3) (pv 6))) pa_nil))) pa_nil)))))))))), ?_⟩
    refine ⟨_, rfl, _, _, rfl, rfl, cmul_l (a := 2) (by omega), ?_⟩
    refine ⟨_, rfl, _, _, rfl, rfl, cmul_l (a := 2) (by omega), _, _, rfl, rfl, _, rfl, _, _, rfl, rfl, .inl ⟨by omega, by omega⟩, _, rfl, _, _, rfl, rfl, ?_⟩
    refine ⟨_, rfl, _, _, rfl, _, rfl, _, rfl, _, _, rfl, rfl, _, _, rfl, rfl, .inl ⟨by omega, by omega⟩, _, _, rfl, ?_⟩
    refine ⟨_, rfl, (old : Int), rfl, by omega, by omega, fun D hD => ?_⟩
    refine lc_int (walk_rng (n := old)) (fun i => 2 * new - (inside old new place - 2 * new * i) - (2 * new * i - inside old new place)) hD (Nat.le_trans ho2 (by decide)) (fun H2 s => trivial) (fun i H x H' y => by rw [y.1]; exact Same.refl _) ?_ (gName_mono 6) ?_
    · rintro i y H2 H3 Q' hi s ⟨rfl, rfl⟩ hQ
      have hQ := hQ _ (Same.refl _)
      refine ⟨rfl, _, rfl, _, rfl, _, rfl, _, rfl, _, _, rfl, rfl, .inl ⟨by omega, by omega⟩, _, _, rfl, rfl, _, rfl, _, _, rfl, rfl, _, _, rfl, ?_⟩
      rw [← betw_int _ _ _ (2 * (new : Int) * (i : Int)) (by simp), ← inside_int old new place ho] at hQ
      exact hQ
    · intro H2 s hD2
      exact k H2 D s hD hD2
end
end Pa

set_option Elab.async false
set_option maxRecDepth 100000
set_option maxHeartbeats 4000000
set_option linter.all false
namespace Pa
open PySem PySem.Spec PyProof.Rows L2
section
variable {P : Program} {w : World} {K : PySem.W.Frag} {mg : Str → Option Value} {base : Heap} {CPicture CDesk : Addr}
/-! the weights by the call: 1 area, 2 nearest, 3 between -/
def wtOf (c : Nat) : Nat → Nat → Nat → List Nat := if c = 1 then areaW else if c = 2 then nearW else betwW
def sp_weights_of_one : Sp := fun vs H Q _ => ∃ (c old new place : Nat), vs = [.int (c : Int), .int (old : Int), .int (new : Int), .int (place : Int)] ∧ 0 < old ∧ old ≤ 1000 ∧ 0 < new ∧ new ≤ 1000 ∧ place < new ∧
  ∀ H' q, Same H H' → H q = none → H' q = some (.lst (iv (wtOf c old new place))) → Q (.ref q) H'
theorem ok_weights_of_one {f : Addr} {fd : FuncData} (F : Fun K "weights_of_one" "weights_of_one" s_weights_of_one f fd) (T : Txt K mg CPicture CDesk) (f_between_weights : Fn P w K mg base 1 "between_weights" ["old", "new", "place"] (sp_weights betwW)) (f_area_weights : Fn P w K mg base 1 "area_weights" ["old", "new", "place"] (sp_weights areaW)) (f_nearest_weights : Fn P w K mg base 1 "nearest_weights" ["old", "new", "place"] (sp_weights nearW)) (c_AREA : Cst mg "AREA" (1)) (c_NEAREST : Cst mg "NEAREST" (2)) : FnOk P w K mg base CX0 2 f fd ["call", "old", "new", "place"] (sp_weights_of_one) := by
  refine F.ok sc_weights_of_one (fun vs H Q E h => ?_) (fun cdv A outer s H vs Q E hr h => ?_)
  · obtain ⟨c, old, new, place, rfl, ho, ho2, hn, hn2, hp, k⟩ := h
    rfl
  · obtain ⟨c, old, new, place, rfl, ho, ho2, hn, hn2, hp, k⟩ := h
    obtain ⟨a_between_weights, d_between_weights, G_between_weights, m_between_weights, k_between_weights, b_between_weights⟩ := f_between_weights
    obtain ⟨a_area_weights, d_area_weights, G_area_weights, m_area_weights, k_area_weights, b_area_weights⟩ := f_area_weights
    obtain ⟨a_nearest_weights, d_nearest_weights, G_nearest_weights, m_nearest_weights, k_nearest_weights, b_nearest_weights⟩ := f_nearest_weights
    obtain ⟨t_AREA, c_AREA⟩ := c_AREA
    obtain ⟨t_NEAREST, c_NEAREST⟩ := c_NEAREST
    have nd := sc_weights_of_one.nd
    refine ⟨_, (pss_cons (ps_if (pt_cmpR op_eq (pv 0) (pe_glob (v := .int (1)) rfl c_AREA ⟨_, rfl⟩) (nomark _)) (pss_one (ps_ret (pe_call G_area_weights (hr.mono (by decide)) rfl m_area_weights k_area_weights b_area_weights .nil pass0 (pa_cons (pv 1) (pa_cons (pv 2) (pa_cons (pv 3) pa_nil)))))) pss_nil) (pss_cons (ps_if (pt_cmpR op_eq (pv 0) (pe_glob (v := .int (2)) rfl c_NEAREST ⟨_, rfl⟩) (nomark _)) (pss_one (ps_ret (pe_call G_nearest_weights (hr.mono (by decide)) rfl m_nearest_weights k_nearest_weights b_nearest_weights .nil pass0 (pa_cons (pv 1) (pa_cons (pv 2) (pa_cons (pv 3) pa_nil)))))) pss_nil) (pss_one (ps_ret (pe_call G_between_weights (hr.mono (by decide)) rfl m_between_weights k_between_weights b_between_weights .nil pass0 (pa_cons (pv 1) (pa_cons (pv 2) (pa_cons (pv 3) pa_nil)))))))), ?_⟩
    refine ⟨_, rfl, rfl, _, rfl, tif (fun z => ?_) (fun z => ?_)⟩
    · have z := int_eq z
      have z : c = 1 := by omega
      subst z
      exact ⟨_, rfl, _, rfl, _, rfl, old, new, place, rfl, ho, ho2, hn, hn2, hp, k⟩
    · have z := int_ne z
      have z : c ≠ 1 := by omega
      refine ⟨_, rfl, rfl, _, rfl, tif (fun y => ?_) (fun y => ?_)⟩
      · have y := int_eq y
        have y : c = 2 := by omega
        subst y
        exact ⟨_, rfl, _, rfl, _, rfl, old, new, place, rfl, ho, ho2, hn, hn2, hp, k⟩
      · have y := int_ne y
        have y : c ≠ 2 := by omega
        unfold wtOf at k
        rw [if_neg z, if_neg y] at k
        exact ⟨_, rfl, _, rfl, _, rfl, old, new, place, rfl, ho, ho2, hn, hn2, hp, k⟩
def sp_weights_of_all : Sp := fun vs H Q _ => ∃ (c old new : Nat), vs = [.int (c : Int), .int (old : Int), .int (new : Int)] ∧ 0 < old ∧ old ≤ 1000 ∧ 0 < new ∧ new ≤ 1000 ∧
  ∀ H' q, Same H H' → H q = none → RowsAt H' q (weightsAll (wtOf c) old new) → Q (.ref q) H'
theorem ok_weights_of_all {f : Addr} {fd : FuncData} (F : Fun K "weights_of_all" "weights_of_all" s_weights_of_all f fd) (T : Txt K mg CPicture CDesk) (f_weights_of_one : Fn P w K mg base 2 "weights_of_one" ["call", "old", "new", "place"] (sp_weights_of_one)) : FnOk P w K mg base CX0 3 f fd ["call", "old", "new"] (sp_weights_of_all) := by
  refine F.ok sc_weights_of_all (fun vs H Q E h => ?_) (fun cdv A outer s H vs Q E hr h => ?_)
  · obtain ⟨c, old, new, rfl, ho, ho2, hn, hn2, k⟩ := h
    rfl
  · obtain ⟨c, old, new, rfl, ho, ho2, hn, hn2, k⟩ := h
    obtain ⟨a_weights_of_one, d_weights_of_one, G_weights_of_one, m_weights_of_one, k_weights_of_one, b_weights_of_one⟩ := f_weights_of_one
    have nd := sc_weights_of_all.nd
    refine ⟨_, (pss_one (ps_ret (pe_lc (own := [("place", 3)]) (g := (gName 3)) (tt := tYes) (te := _) rfl nd (pi_range1 (by rfl) T.range (pa_cons (pv 2) pa_nil)) (blkOk_by (own := [("place", 3)]) (N := ["call", "old", "new", "place"]) (sc := defScope s_weights_of_all) (by decide +kernel)) (fun _ _ _ _ _ => (pg_name (i := 3) nd rfl (Or.inl rfl))) (fun _ _ _ _ _ => pts_nil) (fun _ _ _ _ _ => (pe_call G_weights_of_one (hr.mono (by decide)) rfl m_weights_of_one k_weights_of_one b_weights_of_one .nil pass0 (pa_cons (pv 0) (pa_cons (pv 1) (pa_cons (pv 2) (pa_cons (pv 3) pa_nil))))))))), ?_⟩
    refine ⟨_, rfl, (new : Int), rfl, by omega, by omega, fun D hD => ?_⟩
    refine lc_row (walk_rng (n := new)) (fun i => wtOf c old new i) hD (Nat.le_trans hn2 (by decide)) (fun H2 s => trivial) (fun i H x H' y => by rw [y.1]; exact Same.refl _) ?_ (gName_mono 3) ?_
    · rintro i y H2 H3 Q' hi s ⟨rfl, rfl⟩ hQ
      exact ⟨rfl, _, rfl, _, rfl, _, rfl, _, rfl, c, old, new, i, rfl, ho, ho2, hn, hn2, hi, hQ⟩
    · intro H2 s hD2
      exact k H2 D s hD hD2
/-! weighed, row_resized, rows_resized -/
def sp_weighed : Sp := fun vs H Q _ => ∃ (p q : Addr) (r ws : List Nat), vs = [.ref p, .ref q] ∧ H p = some (.lst (iv r)) ∧ H q = some (.lst (iv ws)) ∧ r.length = ws.length ∧ r.length ≤ 1000 ∧ (∀ n ∈ ws, n ≤ 25000000) ∧
  ∀ H', Same H H' → Q (.int ((dot r ws : Nat) : Int)) H'
theorem dot_get (r ws : List Nat) (h : r.length = ws.length) : (List.range r.length).map (fun i => r.getD i 0 * ws.getD i 0) = List.zipWith (fun a b => a * b) r ws := by
  apply List.ext_getElem?
  intro i
  by_cases hi : i < r.length
  · simp [List.getElem?_zipWith, List.getElem?_map, List.getElem?_range hi, List.getElem?_eq_getElem hi, List.getElem?_eq_getElem (show i < ws.length by omega), List.getD]
  · rw [List.getElem?_eq_none (by simp; omega), List.getElem?_eq_none (by simp; omega)]
theorem gPair_mono (K : PySem.W.Frag) (i j : Nat) : ∀ x σ0 H (C C' : L2.St → Hp → Prop), (∀ σ2 H2, C σ2 H2 → C' σ2 H2) → gTup K 2 (gCons (gName i) (gCons (gName j) gNil)) x σ0 H C → gTup K 2 (gCons (gName i) (gCons (gName j) gNil)) x σ0 H C' := by
  rintro x σ0 H C C' h ⟨a, xs, e, hs, hl, v, r, e1, v2, r2, e2, e3, q⟩
  exact ⟨a, xs, e, hs, hl, v, r, e1, v2, r2, e2, e3, h _ _ q⟩
theorem ok_weighed {f : Addr} {fd : FuncData} (F : Fun K "weighed" "weighed" s_weighed f fd) (T : Txt K mg CPicture CDesk)  : FnOk P w K mg base CX0 1 f fd ["row", "weights"] (sp_weighed) := by
  refine F.ok sc_weighed (fun vs H Q E h => ?_) (fun cdv A outer s H vs Q E hr h => ?_)
  · obtain ⟨p, q, r, ws, rfl, hp, hq, hl, hl2, hw, k⟩ := h
    rfl
  · obtain ⟨p, q, r, ws, rfl, hp, hq, hl, hl2, hw, k⟩ := h
    have nd := sc_weighed.nd
    refine ⟨_, (pss_one (ps_ret (pe_callB (cr_sum rfl) (by rfl) T.sum (by decide +kernel) (pa_cons (pe_lc (own := [("cell", 2), ("weight", 3)]) (g := (gTup K 2 (gCons (gName 2) (gCons (gName 3) gNil)))) (tt := tYes) (te := (tOp _ (tVar 2) (tVar 3))) rfl nd (pi_zip (by rfl) T.zip (pa_cons (pv 0) (pa_cons (pv 1) pa_nil))) (blkOk_by (own := [("cell", 2), ("weight", 3)]) (N := ["row", "weights", "cell", "weight"]) (sc := defScope s_weighed) (by decide +kernel)) (fun _ _ _ _ _ => (pg_tup rfl (pgs_cons (pg_name (i := 2) nd rfl (Or.inl rfl)) (pgs_cons (pg_name (i := 3) nd rfl (Or.inl rfl)) pgs_nil)))) (fun _ _ _ _ _ => pts_nil) (fun _ _ _ _ _ => (pe_op op_mul (pv 2) (pv 3)))) pa_nil)))), ?_⟩
    refine ⟨_, rfl, _, rfl, p, q, iv r, iv ws, rfl, SqL.of hp, SqL.of hq, fun D hD => ?_⟩
    refine lc_int (walk_zip (K := K) (a := p) (b := q) (xs := iv r) (ys := iv ws) (n := r.length) (by rw [iv_len, iv_len]; omega)) (fun i => r.getD i 0 * ws.getD i 0) hD (Nat.le_trans hl2 (by decide)) (fun H2 s => ⟨SqL.of (s _ _ hp), SqL.of (s _ _ hq)⟩)
      (fun i H x H' y => by obtain ⟨T, x, y, _, n, e, _⟩ := y; rw [e]; exact same_new n) ?_ (gPair_mono K 2 3) ?_
    · rintro i y H2 H3 Q' hi s ⟨t, x, y, rfl, nt, rfl, hx, hy⟩ hQ
      obtain ⟨n, hn, rfl⟩ := iv_of hx
      obtain ⟨m, hm, rfl⟩ := iv_of hy
      have hQ := hQ _ (Same.refl _)
      have hm2 := hw m (List.mem_of_getElem? hm)
      have e : (((r.getD i 0 * ws.getD i 0 : Nat)) : Int) = (n : Int) * (m : Int) := by
        simp [List.getD, hn, hm]
      rw [e] at hQ
      exact ⟨t, _, rfl, SqT.of upd_same, rfl, _, _, rfl, _, _, rfl, rfl, rfl, _, rfl, _, rfl, _, _, rfl, rfl, .inr ⟨by omega, by omega⟩, hQ⟩
    · intro H2 s hD2
      refine ⟨D, (List.range r.length).map fun i => ((r.getD i 0 * ws.getD i 0 : Nat) : Int), rfl, SqL.of ?_, ?_⟩
      · rw [hD2]
        simp [iv, Function.comp_def]
      · have e : ((List.range r.length).map fun i => ((r.getD i 0 * ws.getD i 0 : Nat) : Int)).sum = ((dot r ws : Nat) : Int) := by
          unfold dot
          rw [← dot_get r ws hl, ← cast_sum, List.map_map]
          rfl
        rw [e]
        exact k H2 s
def sp_row_resized : Sp := fun vs H Q _ => ∃ (p q : Addr) (r : List Nat) (all : Rows), vs = [.ref p, .ref q] ∧ H p = some (.lst (iv r)) ∧ RowsAt H q all ∧ (∀ ws ∈ all, r.length = ws.length ∧ ∀ n ∈ ws, n ≤ 25000000) ∧ r.length ≤ 1000 ∧ all.length ≤ 1000 ∧
  ∀ H' a, Same H H' → H a = none → H' a = some (.lst (iv (all.map fun ws => dot r ws))) → Q (.ref a) H'
theorem ok_row_resized {f : Addr} {fd : FuncData} (F : Fun K "row_resized" "row_resized" s_row_resized f fd) (T : Txt K mg CPicture CDesk) (f_weighed : Fn P w K mg base 1 "weighed" ["row", "weights"] (sp_weighed)) : FnOk P w K mg base CX0 2 f fd ["row", "all_weights"] (sp_row_resized) := by
  refine F.ok sc_row_resized (fun vs H Q E h => ?_) (fun cdv A outer s H vs Q E hr h => ?_)
  · obtain ⟨p, q, r, all, rfl, _⟩ := h
    rfl
  · obtain ⟨p, q, r, all, rfl, hp, ⟨qs, hq, hql, hqq⟩, hw, hl, hl2, k⟩ := h
    obtain ⟨a_weighed, d_weighed, G_weighed, m_weighed, k_weighed, b_weighed⟩ := f_weighed
    have nd := sc_row_resized.nd
    refine ⟨_, (pss_one (ps_ret (pe_lc (own := [("weights", 2)]) (g := (gName 2)) (tt := tYes) (te := _) rfl nd (pi_list (pv 1)) (blkOk_by (own := [("weights", 2)]) (N := ["row", "all_weights", "weights"]) (sc := defScope s_row_resized) (by decide +kernel)) (fun _ _ _ _ _ => (pg_name (i := 2) nd rfl (Or.inl rfl))) (fun _ _ _ _ _ => pts_nil) (fun _ _ _ _ _ => (pe_call G_weighed (hr.mono (by decide)) rfl m_weighed k_weighed b_weighed .nil pass0 (pa_cons (pv 0) (pa_cons (pv 2) pa_nil))))))), ?_⟩
    refine ⟨_, rfl, q, rfl, ⟨_, SqL.of hq⟩, fun D hD => ?_⟩
    refine lc_int (walk_list (K := K) (a := q) (xs := qs.map V.ref)) (fun i => dot r (all.getD i [])) hD (by rw [List.length_map, hql]; exact Nat.le_trans hl2 (by decide)) (fun H2 s => SqL.of (s _ _ hq)) (fun i H x H' y => by rw [y.1]; exact Same.refl _) ?_ (gName_mono 2) ?_
    · rintro i y H2 H3 Q' hi s ⟨rfl, hy⟩ hQ
      obtain ⟨a, hai, rfl⟩ := refs_of hy
      have hi : i < all.length := by
        have := (List.getElem?_eq_some_iff.mp hai).1
        omega
      have hri := List.getElem?_eq_getElem hi
      have e : all.getD i [] = all[i] := by simp [List.getD, hri]
      rw [e] at hQ
      obtain ⟨w1, w2⟩ := hw _ (List.getElem_mem hi)
      exact ⟨rfl, _, rfl, _, rfl, p, a, r, all[i], rfl, s _ _ hp, s _ _ (hqq i a _ hai hri), w1, hl, w2, hQ⟩
    · intro H2 s hD2
      have e : (List.range (qs.map V.ref).length).map (fun i => dot r (all.getD i [])) = all.map fun ws => dot r ws := by
        rw [List.length_map, hql]
        exact map_range_rows all fun ws => dot r ws
      rw [e] at hD2
      exact k H2 D s hD hD2
def sp_rows_resized : Sp := fun vs H Q _ => ∃ (p q : Addr) (rows all : Rows), vs = [.ref p, .ref q] ∧ RowsAt H p rows ∧ RowsAt H q all ∧ (∀ r ∈ rows, r.length ≤ 1000 ∧ ∀ ws ∈ all, r.length = ws.length) ∧ (∀ ws ∈ all, ∀ n ∈ ws, n ≤ 25000000) ∧ rows.length ≤ 1000 ∧ all.length ≤ 1000 ∧
  ∀ H' a, Same H H' → H a = none → RowsAt H' a (resizedRows rows all) → Q (.ref a) H'
theorem ok_rows_resized {f : Addr} {fd : FuncData} (F : Fun K "rows_resized" "rows_resized" s_rows_resized f fd) (T : Txt K mg CPicture CDesk) (f_row_resized : Fn P w K mg base 2 "row_resized" ["row", "all_weights"] (sp_row_resized)) : FnOk P w K mg base CX0 3 f fd ["rows", "all_weights"] (sp_rows_resized) := by
  refine F.ok sc_rows_resized (fun vs H Q E h => ?_) (fun cdv A outer s H vs Q E hr h => ?_)
  · obtain ⟨p, q, rows, all, rfl, _⟩ := h
    rfl
  · obtain ⟨p, q, rows, all, rfl, ⟨qs, hp, hql, hqq⟩, hA, hr1, hw, hl, hl2, k⟩ := h
    obtain ⟨a_row_resized, d_row_resized, G_row_resized, m_row_resized, k_row_resized, b_row_resized⟩ := f_row_resized
    have nd := sc_rows_resized.nd
    refine ⟨_, (pss_one (ps_ret (pe_lc (own := [("row", 2)]) (g := (gName 2)) (tt := tYes) (te := _) rfl nd (pi_list (pv 0)) (blkOk_by (own := [("row", 2)]) (N := ["rows", "all_weights", "row"]) (sc := defScope s_rows_resized) (by decide +kernel)) (fun _ _ _ _ _ => (pg_name (i := 2) nd rfl (Or.inl rfl))) (fun _ _ _ _ _ => pts_nil) (fun _ _ _ _ _ => (pe_call G_row_resized (hr.mono (by decide)) rfl m_row_resized k_row_resized b_row_resized .nil pass0 (pa_cons (pv 2) (pa_cons (pv 1) pa_nil))))))), ?_⟩
    refine ⟨_, rfl, p, rfl, ⟨_, SqL.of hp⟩, fun D hD => ?_⟩
    refine lc_row (walk_list (K := K) (a := p) (xs := qs.map V.ref)) (fun i => all.map fun ws => dot (rows.getD i []) ws) hD (by rw [List.length_map, hql]; exact Nat.le_trans hl (by decide)) (fun H2 s => SqL.of (s _ _ hp)) (fun i H x H' y => by rw [y.1]; exact Same.refl _) ?_ (gName_mono 2) ?_
    · rintro i y H2 H3 Q' hi s ⟨rfl, hy⟩ hQ
      obtain ⟨a, hai, rfl⟩ := refs_of hy
      have hi : i < rows.length := by
        have := (List.getElem?_eq_some_iff.mp hai).1
        omega
      have hri := List.getElem?_eq_getElem hi
      have e : rows.getD i [] = rows[i] := by simp [List.getD, hri]
      rw [e] at hQ
      obtain ⟨w1, w2⟩ := hr1 _ (List.getElem_mem hi)
      exact ⟨rfl, _, rfl, _, rfl, a, q, rows[i], all, rfl, s _ _ (hqq i a _ hai hri), hA.same s, fun ws hws => ⟨w2 ws hws, hw ws hws⟩, w1, hl2, hQ⟩
    · intro H2 s hD2
      have e : (List.range (qs.map V.ref).length).map (fun i => all.map fun ws => dot (rows.getD i []) ws) = resizedRows rows all := by
        rw [List.length_map, hql]
        exact map_range_rows rows fun r => all.map fun ws => dot r ws
      rw [e] at hD2
      exact k H2 D s hD hD2
/-! resized -/
/-- by how much d grows -/
def wtSum (c old new : Nat) : Nat := if c = 1 then old else if c = 2 then 1 else 2 * new
theorem wtOf_len (c old new p : Nat) : (wtOf c old new p).length = old := by
  unfold wtOf
  split
  · simp [areaW]
  · split
    · simp [nearW]
    · simp [betwW]
theorem wtOf_sum {c old new : Nat} (ho : 0 < old) (hn : 0 < new) : (wtOf c old new 0).sum = wtSum c old new := by
  unfold wtOf wtSum
  split
  · exact areaW_sum hn
  · split
    · exact nearW_sum ho hn
    · exact betwW_sum ho hn
theorem wtOf_le {c old new p : Nat} (ho : 0 < old) (ho2 : old ≤ 1000) (hn : 0 < new) (hn2 : new ≤ 1000) {n : Nat} (h : n ∈ wtOf c old new p) : n ≤ 25000000 := by
  unfold wtOf at h
  split at h
  · obtain ⟨x, hx, rfl⟩ := List.mem_map.mp h
    unfold Ie05.share
    have : (p + 1) * old - p * old = old := by rw [Nat.add_mul]; omega
    omega
  · split at h
    · obtain ⟨x, hx, rfl⟩ := List.mem_map.mp h
      split <;> omega
    · obtain ⟨x, hx, rfl⟩ := List.mem_map.mp h
      omega
theorem weights_all {wt : Nat → Nat → Nat → List Nat} {old new : Nat} {ws : List Nat} (h : ws ∈ weightsAll wt old new) : ∃ p, p < new ∧ ws = wt old new p := by
  obtain ⟨p, hp, rfl⟩ := List.mem_map.mp h
  exact ⟨p, List.mem_range.mp hp, rfl⟩
def sp_resized (C : Addr) : Sp := fun vs H Q _ => ∃ (a : Addr) (c w' h' d w h : Nat) (rows : Rows), vs = [.ref a, .int (c : Int), .int (w' : Int), .int (h' : Int)] ∧ PicAt C H a d rows ∧ Ok w h rows ∧ 0 < d ∧ d < 2 ^ 32 ∧ 0 < w ∧ w ≤ 12 ∧ 0 < h ∧ h ≤ 12 ∧ 0 < w' ∧ w' ≤ 12 ∧ 0 < h' ∧ h' ≤ 12 ∧
  ∀ H' b, Same H H' → PicAt C H' b (lowD (d * wtSum c w w' * wtSum c h h') (resized (wtOf c) rows w h w' h')) (lowR (d * wtSum c w w' * wtSum c h h') (resized (wtOf c) rows w h w' h')) → Q (.ref b) H'
theorem wtSum_le {c old new : Nat} (ho : 0 < old) (ho2 : old ≤ 12) (hn : 0 < new) (hn2 : new ≤ 12) : 0 < wtSum c old new ∧ wtSum c old new ≤ 24 := by
  unfold wtSum
  split
  · omega
  · split <;> omega
theorem ok_resized {f : Addr} {fd : FuncData} (F : Fun K "resized" "resized" s_resized f fd) (T : Txt K mg CPicture CDesk) (f_weights_of_all : Fn P w K mg base 3 "weights_of_all" ["call", "old", "new"] (sp_weights_of_all)) (f_rows_resized : Fn P w K mg base 3 "rows_resized" ["rows", "all_weights"] (sp_rows_resized)) (f_columns : Fn P w K mg base 2 "columns" ["rows"] (sp_columns)) (f_in_lowest_terms : Fn P w K mg base 3 "in_lowest_terms" ["d", "rows"] (sp_in_lowest_terms CPicture)) (f_Picture_width : Me P w K mg base 1 CPicture "width" ["self"] (sp_width CPicture)) (f_Picture_height : Me P w K mg base 1 CPicture "height" ["self"] (sp_height CPicture)) : FnOk P w K mg base CX0 4 f fd ["picture", "call", "w", "h"] (sp_resized CPicture) := by
  refine F.ok sc_resized (fun vs H Q E h => ?_) (fun cdv A outer s H vs Q E hr h => ?_)
  · obtain ⟨a, c, w', h', d, w, h, rows, rfl, _⟩ := h
    rfl
  · obtain ⟨a, c, w', h', d, w, h, rows, rfl, hP, ok, hd, hd2, hw, hw2, hh, hh2, hw', hw2', hh', hh2', k⟩ := h
    obtain ⟨a_weights_of_all, d_weights_of_all, G_weights_of_all, m_weights_of_all, k_weights_of_all, b_weights_of_all⟩ := f_weights_of_all
    obtain ⟨a_rows_resized, d_rows_resized, G_rows_resized, m_rows_resized, k_rows_resized, b_rows_resized⟩ := f_rows_resized
    obtain ⟨a_columns, d_columns, G_columns, m_columns, k_columns, b_columns⟩ := f_columns
    obtain ⟨a_in_lowest_terms, d_in_lowest_terms, G_in_lowest_terms, m_in_lowest_terms, k_in_lowest_terms, b_in_lowest_terms⟩ := f_in_lowest_terms
    obtain ⟨a_Picture_width, d_Picture_width, G_Picture_width, m_Picture_width, b_Picture_width⟩ := f_Picture_width
    obtain ⟨a_Picture_height, d_Picture_height, G_Picture_height, m_Picture_height, b_Picture_height⟩ := f_Picture_height
    have nd := sc_resized.nd
    refine ⟨_, (pss_cons (ps_set (i := 4) nd rfl (Or.inl rfl) (pe_call G_weights_of_all (hr.mono (by decide)) rfl m_weights_of_all k_weights_of_all b_weights_of_all .nil pass0 (pa_cons (pv 1) (pa_cons (pe_meth0 (pv 0) T.clPicture m_Picture_width G_Picture_width (hr.mono (by decide)) b_Picture_width .nil pass0) (pa_cons (pv 2) pa_nil))))) (pss_cons (ps_set (i := 5) nd rfl (Or.inl rfl) (pe_call G_weights_of_all (hr.mono (by decide)) rfl m_weights_of_all k_weights_of_all b_weights_of_all .nil pass0 (pa_cons (pv 1) (pa_cons (pe_meth0 (pv 0) T.clPicture m_Picture_height G_Picture_height (hr.mono (by decide)) b_Picture_height .nil pass0) (pa_cons (pv 3) pa_nil))))) (pss_cons (ps_set (i := 6) nd rfl (Or.inl rfl) (pe_call G_rows_resized (hr.mono (by decide)) rfl m_rows_resized k_rows_resized b_rows_resized .nil pass0 (pa_cons (pe_fld (pv 0) rfl) (pa_cons (pv 4) pa_nil)))) (pss_cons (ps_set (i := 7) nd rfl (Or.inl rfl) (pe_call G_columns (hr.mono (by decide)) rfl m_columns k_columns b_columns .nil pass0 (pa_cons (pe_call G_rows_resized (hr.mono (by decide)) rfl m_rows_resized k_rows_resized b_rows_resized .nil pass0 (pa_cons (pe_call G_columns (hr.mono (by decide)) rfl m_columns k_columns b_columns .nil pass0 (pa_cons (pv 6) pa_nil)) (pa_cons (pv 5) pa_nil))) pa_nil))) (pss_one (ps_ret (pe_call G_in_lowest_terms (hr.mono (by decide)) rfl m_in_lowest_terms k_in_lowest_terms b_in_lowest_terms .nil pass0 (pa_cons (pe_op op_mul (pe_op op_mul (pe_fld (pv 0) rfl) (pe_callB (cr_sum rfl) (by rfl) T.sum (by decide +kernel) (pa_cons (pe_ix ix_list (pv 4) pe_int (fun _ _ => rfl)) pa_nil))) (pe_callB (cr_sum rfl) (by rfl) T.sum (by decide +kernel) (pa_cons (pe_ix ix_list (pv 5) pe_int (fun _ _ => rfl)) pa_nil))) (pa_cons (pv 7) pa_nil))))))))), ?_⟩
    have h0 : 0 < rows.length := by rw [ok.len]; exact hh
    have hr0 := List.getElem?_eq_getElem h0
    have hP0 := hP
    obtain ⟨dx, p, ha, hR⟩ := hP
    have hlen : ((rows[0].length : Nat) : Int) = (w : Int) := by rw [ok.row _ (List.getElem_mem h0)]
    have hlen2 : ((rows.length : Nat) : Int) = (h : Int) := by rw [ok.len]
    -- across
    refine ⟨_, rfl, _, rfl, a, dx, _, rfl, ha, pf_no _ _ (by decide +kernel) (by decide +kernel), a, d, rows, rows[0], rfl, hP0, hr0, _, rfl, c, w, w', by rw [hlen]; rfl, hw, by omega, hw', by omega, fun H1 q1 s1 n1 r1 => ?_⟩
    -- down
    refine ⟨_, rfl, _, rfl, a, dx, _, rfl, s1 _ _ ha, pf_no _ _ (by decide +kernel) (by decide +kernel), a, d, rows, rfl, hP0.same s1, _, rfl, c, h, h', by rw [hlen2]; rfl, hh, by omega, hh', by omega, fun H2 q2 s2 n2 r2 => ?_⟩
    have s02 := s1.trans s2
    -- widened
    have wl := weightsAll_len (wtOf c) w w'
    have hl' := weightsAll_len (wtOf c) h h'
    refine ⟨_, rfl, a, CPicture, dx, _, _, rfl, s02 _ _ ha, T.clPicture, T.nR, pf_rows _ _, _, rfl, p, q1, rows, weightsAll (wtOf c) w w', rfl, hR.same s02, r1.same s2, ?_, ?_, by rw [ok.len]; omega, by rw [wl]; omega, fun H3 q3 s3 n3 r3 => ?_⟩
    · intro r hr
      refine ⟨by rw [ok.row r hr]; omega, fun ws hws => ?_⟩
      obtain ⟨p, _, rfl⟩ := weights_all hws
      rw [wtOf_len, ok.row r hr]
    · intro ws hws n hn
      obtain ⟨p, _, rfl⟩ := weights_all hws
      exact wtOf_le hw (by omega) hw' (by omega) hn
    have ok3 : Ok w' h (resizedRows rows (weightsAll (wtOf c) w w')) := resizedRows_ok ok wl
    -- columns(widened)
    refine ⟨_, rfl, q3, _, w', h, rfl, r3, ok3, hh, by omega, by omega, fun H4 q4 s4 n4 r4 => ?_⟩
    have ok4 := cols_ok ok3 hh
    -- rows_resized(.., down)
    refine ⟨_, rfl, q4, q2, _, weightsAll (wtOf c) h h', rfl, r4, (r2.same s3).same s4, ?_, ?_, by rw [ok4.len]; omega, by rw [hl']; omega, fun H5 q5 s5 n5 r5 => ?_⟩
    · intro r hr
      refine ⟨by rw [ok4.row r hr]; omega, fun ws hws => ?_⟩
      obtain ⟨p, _, rfl⟩ := weights_all hws
      rw [wtOf_len, ok4.row r hr]
    · intro ws hws n hn
      obtain ⟨p, _, rfl⟩ := weights_all hws
      exact wtOf_le hh (by omega) hh' (by omega) hn
    have ok5 := resizedRows_ok ok4 hl'
    -- columns
    refine ⟨q5, _, h', w', rfl, r5, ok5, hw', by omega, by omega, fun H6 q6 s6 n6 r6 => ?_⟩
    have ok6 := cols_ok ok5 hw'
    have s26 : Same H2 H6 := (s3.trans (s4.trans (s5.trans s6)))
    have s06 : Same H H6 := s02.trans s26
    have g1 : (weightsAll (wtOf c) w w')[0]? = some (wtOf c w w' 0) := by
      unfold weightsAll
      rw [List.getElem?_map, List.getElem?_range hw']
      rfl
    have g2 : (weightsAll (wtOf c) h h')[0]? = some (wtOf c h h' 0) := by
      unfold weightsAll
      rw [List.getElem?_map, List.getElem?_range hh']
      rfl
    obtain ⟨v1, a1, x1, x2, x3, _⟩ := ((r1.same s2).same s26).row g1
    obtain ⟨v2, a2, y1, y2, y3, _⟩ := (r2.same s26).row g2
    obtain ⟨b1, b2⟩ := wtSum_le (c := c) hw hw2 hw' hw2'
    obtain ⟨b3, b4⟩ := wtSum_le (c := c) hh hh2 hh' hh2'
    have sum1 : ((wtOf c w w' 0).map fun (n : Nat) => (n : Int)).sum = ((wtSum c w w' : Nat) : Int) := by rw [cast_sum, wtOf_sum hw hw']
    have sum2 : ((wtOf c h h' 0).map fun (n : Nat) => (n : Int)).sum = ((wtSum c h h' : Nat) : Int) := by rw [cast_sum, wtOf_sum hh hh']
    refine ⟨_, rfl, a, CPicture, dx, _, _, rfl, s06 _ _ ha, T.clPicture, T.nD, pf_d _ _, _, rfl, q1, _, _, _, rfl, rfl, SqL.of x1, at_of (j := 0) rfl x2, a1, _, rfl, SqL.of (by rw [x3, iv_ints]), _, _, rfl, rfl, .inl ⟨by omega, by omega⟩, ?_⟩
    refine ⟨_, rfl, q2, _, _, _, rfl, rfl, SqL.of y1, at_of (j := 0) rfl y2, a2, _, rfl, SqL.of (by rw [y3, iv_ints]), _, _, rfl, rfl, .inr ⟨by rw [sum2]; omega, by rw [sum2]; omega⟩, ?_⟩
    rw [sum1, sum2]
    have hdd : d * wtSum c w w' * wtSum c h h' < 2 ^ 64 := by
      have e1 : d * wtSum c w w' ≤ 2 ^ 32 * 24 := Nat.mul_le_mul (by omega) b2
      have e2 : d * wtSum c w w' * wtSum c h h' ≤ 2 ^ 32 * 24 * 24 := Nat.mul_le_mul e1 b4
      exact Nat.lt_of_le_of_lt e2 (by decide)
    refine ⟨_, rfl, d * wtSum c w w' * wtSum c h h', q6, resized (wtOf c) rows w h w' h', by simp, r6, Nat.mul_pos (Nat.mul_pos hd b1) b3, hdd, ?_, ?_, fun H7 b s7 hb => k H7 b (s06.trans s7) hb⟩
    · show (cols _).length ≤ 1000
      rw [ok6.len]
      omega
    · intro r hr
      rw [ok6.row r hr]
      omega
end
end Pa

set_option Elab.async false
set_option maxRecDepth 100000
set_option maxHeartbeats 4000000
set_option linter.all false
namespace Pa
open PySem PySem.Spec PyProof.Rows L2
section
variable {P : Program} {w : World} {K : PySem.W.Frag} {mg : Str → Option Value} {base : Heap} {CPicture CDesk : Addr}
/-! backwards: of a row, or of the rows themselves -/
def sp_backwards : Sp := fun vs H Q _ => ∃ (p : Addr) (xs : List V), vs = [.ref p] ∧ H p = some (.lst xs) ∧
  ∀ H' q, Same H H' → H q = none → H' q = some (.lst xs.reverse) → Q (.ref q) H'
theorem ok_backwards {f : Addr} {fd : FuncData} (F : Fun K "backwards" "backwards" s_backwards f fd) (T : Txt K mg CPicture CDesk)  : FnOk P w K mg base CX0 1 f fd ["row"] (sp_backwards) := by
  refine F.ok sc_backwards (fun vs H Q E h => ?_) (fun cdv A outer s H vs Q E hr h => ?_)
  · obtain ⟨p, xs, rfl, hp, k⟩ := h
    rfl
  · obtain ⟨p, xs, rfl, hp, k⟩ := h
    have nd := sc_backwards.nd
    refine ⟨_, (pss_one (ps_ret (pe_listRev rfl (by rfl) T.list (by rfl) T.reversed (pv 0)))), ?_⟩
    exact ⟨_, rfl, p, xs, rfl, SqL.of hp, fun q hq => k _ q (same_new hq) hq upd_same⟩
theorem iv_rev (r : List Nat) : (iv r).reverse = iv r.reverse := by simp [iv]
theorem RowsAt.rev {H H' : Hp} {p q : Addr} {rows : Rows} (h : RowsAt H p rows) (s : Same H H') : ∃ xs, H p = some (.lst xs) ∧ (H' q = some (.lst xs.reverse) → RowsAt H' q rows.reverse) := by
  obtain ⟨qs, h1, h2, h3⟩ := h
  refine ⟨_, h1, fun e => ⟨qs.reverse, by rw [e, List.map_reverse], by simp [h2], fun i a r ha hr => ?_⟩⟩
  have hi : i < qs.length := by
    have := (List.getElem?_eq_some_iff.mp ha).1
    simpa using this
  rw [List.getElem?_reverse hi] at ha
  rw [List.getElem?_reverse (by omega), ← h2] at hr
  exact s _ _ (h3 _ a r ha hr)
/-! turned -/
def sp_turned (C : Addr) : Sp := fun vs H Q _ => ∃ (a : Addr) (k d w h : Nat) (rows : Rows), vs = [.ref a, .int (k : Int)] ∧ PicAt C H a d rows ∧ Ok w h rows ∧ 0 < w ∧ w ≤ 1000 ∧ 0 < h ∧ h ≤ 1000 ∧ k ≤ 3 ∧
  ∀ H' b, Same H H' → PicAt C H' b d (turnR k rows) → Q (.ref b) H'
theorem turnR_more : ∀ (i : Nat) (rows : Rows), turnR (i + 1) rows = quarterR (turnR i rows)
  | 0, rows => rfl
  | i + 1, rows => by
    show turnR (i + 1) (quarterR rows) = _
    rw [turnR_more i (quarterR rows)]
    rfl
theorem ok_turned {f : Addr} {fd : FuncData} (F : Fun K "turned" "turned" s_turned f fd) (T : Txt K mg CPicture CDesk) (f_Picture_init : Ma P w K mg base 1 CPicture ["self", "d", "rows"] (sp_Picture CPicture)) (f_backwards : Fn P w K mg base 1 "backwards" ["row"] (sp_backwards)) (f_columns : Fn P w K mg base 2 "columns" ["rows"] (sp_columns)) : FnOk P w K mg base CX0 3 f fd ["picture", "k"] (sp_turned CPicture) := by
  refine F.ok sc_turned (fun vs H Q E h => ?_) (fun cdv A outer s H vs Q E hr h => ?_)
  · obtain ⟨a, k, d, w, h, rows, rfl, hP, ok, hw, hw2, hh, hh2, hk, kk⟩ := h
    rfl
  · obtain ⟨a, k, d, w, h, rows, rfl, hP, ok, hw, hw2, hh, hh2, hk, kk⟩ := h
    obtain ⟨a_Picture_init, d_Picture_init, G_Picture_init, M_Picture_init, b_Picture_init⟩ := f_Picture_init
    obtain ⟨a_backwards, d_backwards, G_backwards, m_backwards, k_backwards, b_backwards⟩ := f_backwards
    obtain ⟨a_columns, d_columns, G_columns, m_columns, k_columns, b_columns⟩ := f_columns
    have nd := sc_turned.nd
    refine ⟨_, (pss_cons (ps_set (i := 2) nd rfl (Or.inl rfl) (pe_fld (pv 0) rfl)) (pss_cons (ps_for PassesOwn.never rfl (pi_range1 (by rfl) T.range (pa_cons (pv 1) pa_nil)) (pg_name (i := 3) nd rfl (Or.inl rfl)) (pss_one (ps_setLc (i := 2) (own := [("one", 4)]) (g := (gName 4)) (tt := tYes) (te := _) rfl nd rfl rfl (sw_true rfl rfl rfl (by decide +kernel)) (pi_list (pe_call G_columns (hr.mono (by decide)) rfl m_columns k_columns b_columns .nil pass0 (pa_cons (pv 2) pa_nil))) (blkOk_by (own := [("one", 4)]) (N := ["picture", "k", "rows", "quarter", "one"]) (sc := defScope s_turned) (by decide +kernel)) (fun _ _ _ _ _ => (pg_name (i := 4) nd rfl (Or.inl rfl))) (fun _ _ _ _ _ => pts_nil) (fun _ _ _ _ _ => (pe_call G_backwards (hr.mono (by decide)) rfl m_backwards k_backwards b_backwards .nil pass0 (pa_cons (pv 4) pa_nil)))))) (pss_one (ps_ret (pe_make M_Picture_init G_Picture_init (hr.mono (by decide)) rfl T.gPicture b_Picture_init .nil pass0 (pa_cons (pe_fld (pv 0) rfl) (pa_cons (pv 2) pa_nil))))))), ?_⟩
    have hP0 := hP
    obtain ⟨dx, p, ha, hR⟩ := hP
    refine ⟨_, rfl, a, CPicture, dx, _, _, rfl, ha, T.clPicture, T.nR, pf_rows _ _, ?_⟩
    refine ⟨_, rfl, (k : Int), rfl, by omega, by omega, for_range (lo := 0) (n := k)
      (fun i σ H' => Same H H' ∧ ∃ (p' : Addr) (v3 v4 : Option V) (w' h' : Nat), σ = [some (.ref a), some (.int (k : Int)), some (.ref p'), v3, v4] ∧ RowsAt H' p' (turnR i rows) ∧ Ok w' h' (turnR i rows) ∧ 0 < w' ∧ w' ≤ 1000 ∧ 0 < h' ∧ h' ≤ 1000)
      ⟨Same.refl _, p, none, none, w, h, rfl, hR, ok, hw, hw2, hh, hh2⟩ ?_ ?_⟩
    · rintro i σ H' hi ⟨s1, p', v3, v4, w', h', rfl, hR', ok', a1, a2, a3, a4⟩
      refine ⟨_, rfl, p', _, w', h', rfl, hR', ok', a3, a2, a4, fun H2 q2 s2 n2 r2 => ?_⟩
      have ok2 := cols_ok ok' a3
      obtain ⟨qs, hq, hql, hqq⟩ := r2
      refine ⟨q2, rfl, ⟨_, SqL.of hq⟩, fun D hD => ?_⟩
      refine lc_row (walk_list (K := K) (a := q2) (xs := qs.map V.ref)) (fun i' => ((cols (turnR i rows)).getD i' []).reverse) hD (by rw [List.length_map, hql, ok2.len]; exact Nat.le_trans a2 (by decide)) (fun H3 s => SqL.of (s _ _ hq)) (fun i H x H' y => by rw [y.1]; exact Same.refl _) ?_ (gName_mono 4) ?_
      · rintro j y H3 H4 Q' hj s3 ⟨rfl, hy⟩ hQ
        obtain ⟨b, hbi, rfl⟩ := refs_of hy
        have hj : j < (cols (turnR i rows)).length := by
          have := (List.getElem?_eq_some_iff.mp hbi).1
          omega
        have hrj := List.getElem?_eq_getElem hj
        have e : (cols (turnR i rows)).getD j [] = (cols (turnR i rows))[j] := by simp [List.getD, hrj]
        rw [e] at hQ
        refine ⟨rfl, _, rfl, b, _, rfl, s3 _ _ (hqq j b _ hbi hrj), fun H5 q5 s5 n5 e5 => hQ H5 q5 s5 n5 ?_⟩
        rw [e5, iv_rev]
      · intro H3 s3 r3
        have e : (List.range (qs.map V.ref).length).map (fun i' => ((cols (turnR i rows)).getD i' []).reverse) = turnR (i + 1) rows := by
          rw [List.length_map, hql, turnR_more]
          exact map_range_rows _ List.reverse
        rw [e] at r3
        refine ⟨s1.trans (s2.trans s3), D, some (.int (0 + (i : Int))), v4, h', w', rfl, r3, ?_, a3, a4, a1, a2⟩
        rw [turnR_more]
        exact quarterR_ok ok' a3
    · rintro σ H' ⟨s1, p', v3, v4, w', h', rfl, hR', ok', a1, a2, a3, a4⟩
      refine ⟨_, rfl, a, CPicture, dx, _, _, rfl, s1 _ _ ha, T.clPicture, T.nD, pf_d _ _, _, rfl, ?_⟩
      exact made_picture hR' fun H3 b s3 hb => kk H3 b (s1.trans s3) hb
/-! mirrored -/
def mirrorR (k : Nat) (rows : Rows) : Rows := if k = 0 then rows.map List.reverse else rows.reverse
def sp_mirrored (C : Addr) : Sp := fun vs H Q _ => ∃ (a : Addr) (k d : Nat) (rows : Rows), vs = [.ref a, .int (k : Int)] ∧ PicAt C H a d rows ∧ rows.length ≤ 1000 ∧
  ∀ H' b, Same H H' → PicAt C H' b d (mirrorR k rows) → Q (.ref b) H'
theorem ok_mirrored {f : Addr} {fd : FuncData} (F : Fun K "mirrored" "mirrored" s_mirrored f fd) (T : Txt K mg CPicture CDesk) (f_Picture_init : Ma P w K mg base 1 CPicture ["self", "d", "rows"] (sp_Picture CPicture)) (f_backwards : Fn P w K mg base 1 "backwards" ["row"] (sp_backwards)) : FnOk P w K mg base CX0 3 f fd ["picture", "k"] (sp_mirrored CPicture) := by
  refine F.ok sc_mirrored (fun vs H Q E h => ?_) (fun cdv A outer s H vs Q E hr h => ?_)
  · obtain ⟨a, k, d, rows, rfl, hP, hl, kk⟩ := h
    rfl
  · obtain ⟨a, k, d, rows, rfl, hP, hl, kk⟩ := h
    obtain ⟨a_Picture_init, d_Picture_init, G_Picture_init, M_Picture_init, b_Picture_init⟩ := f_Picture_init
    obtain ⟨a_backwards, d_backwards, G_backwards, m_backwards, k_backwards, b_backwards⟩ := f_backwards
    have nd := sc_mirrored.nd
    refine ⟨_, (pss_cons (ps_if (pt_cmpR op_eq (pv 1) pe_int (nomark _)) (pss_one (ps_ret (pe_make M_Picture_init G_Picture_init (hr.mono (by decide)) rfl T.gPicture b_Picture_init .nil pass0 (pa_cons (pe_fld (pv 0) rfl) (pa_cons (pe_lc (own := [("row", 2)]) (g := (gName 2)) (tt := tYes) (te := _) rfl nd (pi_list (pe_fld (pv 0) rfl)) (blkOk_by (own := [("row", 2)]) (N := ["picture", "k", "row"]) (sc := defScope s_mirrored) (by decide +kernel)) (fun _ _ _ _ _ => (pg_name (i := 2) nd rfl (Or.inl rfl))) (fun _ _ _ _ _ => pts_nil) (fun _ _ _ _ _ => (pe_call G_backwards (hr.mono (by decide)) rfl m_backwards k_backwards b_backwards .nil pass0 (pa_cons (pv 2) pa_nil)))) pa_nil))))) pss_nil) (pss_one (ps_ret (pe_make M_Picture_init G_Picture_init (hr.mono (by decide)) rfl T.gPicture b_Picture_init .nil pass0 (pa_cons (pe_fld (pv 0) rfl) (pa_cons (pe_call G_backwards (hr.mono (by decide)) rfl m_backwards k_backwards b_backwards .nil pass0 (pa_cons (pe_fld (pv 0) rfl) pa_nil)) pa_nil)))))), ?_⟩
    obtain ⟨dx, p, ha, hR⟩ := hP
    refine ⟨_, rfl, rfl, _, rfl, tif (fun z => ?_) (fun z => ?_)⟩
    · have z := int_eq z
      have z : k = 0 := by omega
      subst z
      obtain ⟨qs, hq, hql, hqq⟩ := hR
      refine ⟨_, rfl, a, CPicture, dx, _, _, rfl, ha, T.clPicture, T.nD, pf_d _ _, ?_⟩
      refine ⟨_, rfl, a, CPicture, dx, _, _, rfl, ha, T.clPicture, T.nR, pf_rows _ _, p, rfl, ⟨_, SqL.of hq⟩, fun D hD => ?_⟩
      refine lc_row (walk_list (K := K) (a := p) (xs := qs.map V.ref)) (fun i => (rows.getD i []).reverse) hD (by rw [List.length_map, hql]; exact Nat.le_trans hl (by decide)) (fun H3 s => SqL.of (s _ _ hq)) (fun i H x H' y => by rw [y.1]; exact Same.refl _) ?_ (gName_mono 2) ?_
      · rintro j y H3 H4 Q' hj s3 ⟨rfl, hy⟩ hQ
        obtain ⟨b, hbi, rfl⟩ := refs_of hy
        have hj : j < rows.length := by
          have := (List.getElem?_eq_some_iff.mp hbi).1
          omega
        have hrj := List.getElem?_eq_getElem hj
        have e : rows.getD j [] = rows[j] := by simp [List.getD, hrj]
        rw [e] at hQ
        refine ⟨rfl, _, rfl, b, _, rfl, s3 _ _ (hqq j b _ hbi hrj), fun H5 q5 s5 n5 e5 => hQ H5 q5 s5 n5 ?_⟩
        rw [e5, iv_rev]
      · intro H3 s3 r3
        have e : (List.range (qs.map V.ref).length).map (fun i => (rows.getD i []).reverse) = rows.map List.reverse := by
          rw [List.length_map, hql]
          exact map_range_rows _ List.reverse
        rw [e] at r3
        exact made_picture r3 fun H4 b s4 hb => kk H4 b (s3.trans s4) hb
    · have z := int_ne z
      have z : k ≠ 0 := by omega
      refine ⟨_, rfl, a, CPicture, dx, _, _, rfl, ha, T.clPicture, T.nD, pf_d _ _, ?_⟩
      have hx : ∃ xs, H p = some (.lst xs) := by
        obtain ⟨qs, hq, _⟩ := hR
        exact ⟨_, hq⟩
      obtain ⟨xs, hxs⟩ := hx
      refine ⟨_, rfl, a, CPicture, dx, _, _, rfl, ha, T.clPicture, T.nR, pf_rows _ _, p, xs, rfl, hxs, fun H2 q s2 n2 e2 => ?_⟩
      obtain ⟨ys, hys, r2⟩ := hR.rev (q := q) s2
      rw [hxs] at hys
      have hys : xs = ys := by injection hys with hys; injection hys
      subst hys
      have r2 := r2 e2
      unfold mirrorR at kk
      rw [if_neg z] at kk
      exact made_picture r2 fun H4 b s4 hb => kk H4 b (s2.trans s4) hb
end
end Pa

set_option Elab.async false
set_option maxRecDepth 100000
set_option maxHeartbeats 4000000
set_option linter.all false
namespace Pa
open PySem PySem.Spec PyProof.Rows L2
section
variable {P : Program} {w : World} {K : PySem.W.Frag} {mg : Str → Option Value} {base : Heap} {CPicture CDesk : Addr}
/-! cut_out -/
theorem cut_part (xs : List V) (x u : Nat) : cutV xs (some (x : Int)) (some ((x : Int) + (u : Int))) = part x u xs := by
  have e : (x : Int) + (u : Int) = ((x + u : Nat) : Int) := by simp
  unfold cutV part
  rw [e, HT.sIx_nat, HT.sIx_nat, List.drop_take]
  by_cases h : x ≤ xs.length
  · rw [Nat.min_eq_left h]
    apply List.ext_getElem?
    intro i
    by_cases hi : i < u
    · by_cases hj : x + i < xs.length
      · rw [List.getElem?_take_of_lt (by omega), List.getElem?_take_of_lt (by omega)]
      · rw [List.getElem?_eq_none (by simp; omega), List.getElem?_eq_none (by simp; omega)]
    · rw [List.getElem?_eq_none (by simp; omega), List.getElem?_eq_none (by simp; omega)]
  · rw [List.drop_eq_nil_of_le (show xs.length ≤ min x xs.length by omega), List.drop_eq_nil_of_le (show xs.length ≤ x by omega)]
    simp
theorem iv_part (x u : Nat) (r : List Nat) : part x u (iv r) = iv (part x u r) := by simp [part, iv, List.map_take, List.map_drop]
def sp_cut_out (C : Addr) : Sp := fun vs H Q _ => ∃ (a : Addr) (x y u v d w h : Nat) (rows : Rows), vs = [.ref a, .int (x : Int), .int (y : Int), .int (u : Int), .int (v : Int)] ∧ PicAt C H a d rows ∧ Ok w h rows ∧ 0 < d ∧ d < 2 ^ 32 ∧ w ≤ 12 ∧ h ≤ 12 ∧ x + u ≤ w ∧ y + v ≤ h ∧
  ∀ H' b, Same H H' → PicAt C H' b (lowD d (cutR x y u v rows)) (lowR d (cutR x y u v rows)) → Q (.ref b) H'
theorem ok_cut_out {f : Addr} {fd : FuncData} (F : Fun K "cut_out" "cut_out" s_cut_out f fd) (T : Txt K mg CPicture CDesk) (f_in_lowest_terms : Fn P w K mg base 3 "in_lowest_terms" ["d", "rows"] (sp_in_lowest_terms CPicture)) : FnOk P w K mg base CX0 4 f fd ["picture", "x", "y", "u", "v"] (sp_cut_out CPicture) := by
  refine F.ok sc_cut_out (fun vs H Q E h => ?_) (fun cdv A outer s H vs Q E hr h => ?_)
  · obtain ⟨_, _, _, _, _, _, _, _, _, rfl, _⟩ := h
    rfl
  · obtain ⟨a, x, y, u, v, d, w, h, rows, rfl, ⟨dx, p, ha, qs, hp, hql, hqq⟩, ok, hd, hd2, hw, hh, hx, hy, k⟩ := h
    obtain ⟨a_in_lowest_terms, d_in_lowest_terms, G_in_lowest_terms, m_in_lowest_terms, k_in_lowest_terms, b_in_lowest_terms⟩ := f_in_lowest_terms
    have nd := sc_cut_out.nd
    refine ⟨_, (pss_one (ps_ret (pe_call G_in_lowest_terms (hr.mono (by decide)) rfl m_in_lowest_terms k_in_lowest_terms b_in_lowest_terms .nil pass0 (pa_cons (pe_fld (pv 0) rfl) (pa_cons (pe_lc (own := [("row", 5)]) (g := (gName 5)) (tt := tYes) (te := (tSl (rSlL K) (tVar 5) (tPart (tVar 1)) (tPart (tOp _ (tVar 1) (tVar 3))))) rfl nd (pi_list (pe_slice sl_list (pe_fld (pv 0) rfl) (po_some (pv 2)) (po_some (pe_op op_add (pv 2) (pv 4))))) (blkOk_by (own := [("row", 5)]) (N := ["picture", "x", "y", "u", "v", "row"]) (sc := defScope s_cut_out) (by decide +kernel)) (fun _ _ _ _ _ => (pg_name (i := 5) nd rfl (Or.inl rfl))) (fun _ _ _ _ _ => pts_nil) (fun _ _ _ _ _ => (pe_slice sl_list (pv 5) (po_some (pv 1)) (po_some (pe_op op_add (pv 1) (pv 3)))))) pa_nil))))), ?_⟩
    refine ⟨_, rfl, a, CPicture, dx, _, _, rfl, ha, T.clPicture, T.nD, pf_d _ _, _, rfl, a, CPicture, dx, _, _, rfl, ha, T.clPicture, T.nR, pf_rows _ _, _, rfl, _, rfl, _, rfl, _, rfl, _, _, rfl, rfl, _, rfl, p, _, rfl, SqL.of hp, fun p2 n2 => ?_⟩
    rw [cut_part]
    have ep : part y v (qs.map V.ref) = (part y v qs).map V.ref := by simp [part, List.map_take, List.map_drop]
    rw [ep]
    have s2 : Same H (upd H p2 (.lst ((part y v qs).map V.ref))) := same_new n2
    refine ⟨p2, rfl, ⟨_, SqL.of upd_same⟩, fun D hD => ?_⟩
    have hlp : (part y v qs).length = v := part_len _ (by rw [hql, ok.len]; exact hy)
    have hlr : (part y v rows).length = v := part_len _ (by rw [ok.len]; exact hy)
    refine lc_row (walk_list (K := K) (a := p2) (xs := (part y v qs).map V.ref)) (fun i => part x u ((part y v rows).getD i [])) hD (by rw [List.length_map, hlp]; have : v ≤ 12 := by omega
                                                                                                                                        exact Nat.le_trans this (by decide)) (fun H3 s => SqL.of (s _ _ upd_same)) (fun i H x H' y => by rw [y.1]; exact Same.refl _) ?_ (gName_mono 5) ?_
    · rintro j z H3 H4 Q' hj s3 ⟨rfl, hz⟩ hQ
      obtain ⟨b, hbi, rfl⟩ := refs_of hz
      have hj : j < v := by
        have := (List.getElem?_eq_some_iff.mp hbi).1
        omega
      rw [part_get qs hj] at hbi
      have hyj : y + j < rows.length := by rw [ok.len]; omega
      have hrj := List.getElem?_eq_getElem hyj
      have e : (part y v rows).getD j [] = rows[y + j] := by simp [List.getD, part_get rows hj, hrj]
      rw [e] at hQ
      have hb := s3 _ _ (s2 _ _ (hqq _ b _ hbi hrj))
      refine ⟨rfl, _, rfl, _, rfl, _, rfl, _, rfl, _, rfl, _, _, rfl, rfl, _, rfl, b, _, rfl, SqL.of hb, fun q5 n5 => ?_⟩
      rw [cut_part, iv_part]
      exact hQ _ q5 (same_new n5) n5 upd_same
    · intro H3 s3 r3
      have e : (List.range ((part y v qs).map V.ref).length).map (fun i => part x u ((part y v rows).getD i [])) = cutR x y u v rows := by
        rw [List.length_map, hlp]
        have e := map_range_rows (part y v rows) fun r => part x u r
        rw [hlr] at e
        exact e
      rw [e] at r3
      have okc := cutR_ok (u := u) (v := v) ok hx hy
      refine ⟨d, D, cutR x y u v rows, rfl, r3, hd, Nat.lt_trans hd2 (by decide), by rw [okc.len]; omega, fun r hr => by rw [okc.row r hr]; omega, fun H5 b s5 hb => k H5 b ((s2.trans s3).trans s5) hb⟩
/-! drawn -/
def drawnR (w h : Nat) (cells : List Nat) : Rows := (List.range h).map fun y => part (y * w) w cells
theorem drawnR_ok {w h : Nat} {cells : List Nat} (hl : cells.length = w * h) : Ok w h (drawnR w h cells) := by
  refine ⟨by simp [drawnR], fun r hr => ?_⟩
  obtain ⟨y, hy, rfl⟩ := List.mem_map.mp hr
  have hy := List.mem_range.mp hy
  apply part_len
  rw [hl, Nat.mul_comm w h]
  have := Nat.mul_le_mul_right w (show y + 1 ≤ h by omega)
  rw [Nat.add_mul, Nat.one_mul] at this
  exact this
theorem part_flat {α : Type} (l : List α) (w : Nat) : ∀ h, ((List.range h).map fun y => part (y * w) w l).flatten = l.take (h * w)
  | 0 => by simp
  | h + 1 => by
    rw [List.range_succ, List.map_append, List.flatten_append, part_flat l w h]
    simp only [List.map_cons, List.map_nil, List.flatten_cons, List.flatten_nil, List.append_nil, part]
    rw [Nat.succ_mul]
    have e := (List.take_append_drop (h * w) (l.take (h * w + w))).symm
    rw [List.take_take, Nat.min_eq_left (by omega)] at e
    exact e.symm
theorem drawnR_flat {w h : Nat} {cells : List Nat} (hl : cells.length = w * h) : (drawnR w h cells).flatten = cells := by
  unfold drawnR
  rw [part_flat, Nat.mul_comm h w, ← hl, List.take_length]
def sp_drawn (C : Addr) : Sp := fun vs H Q _ => ∃ (w h : Nat) (p : Addr) (cells : List Nat), vs = [.int (w : Int), .int (h : Int), .ref p] ∧ H p = some (.lst (iv cells)) ∧ w ≤ 12 ∧ h ≤ 12 ∧ cells.length = w * h ∧
  ∀ H' b, Same H H' → PicAt C H' b 1 (drawnR w h cells) → Q (.ref b) H'
theorem ok_drawn {f : Addr} {fd : FuncData} (F : Fun K "drawn" "drawn" s_drawn f fd) (T : Txt K mg CPicture CDesk) (f_Picture_init : Ma P w K mg base 1 CPicture ["self", "d", "rows"] (sp_Picture CPicture)) : FnOk P w K mg base CX0 3 f fd ["w", "h", "cells"] (sp_drawn CPicture) := by
  refine F.ok sc_drawn (fun vs H Q E h => ?_) (fun cdv A outer s H vs Q E hr h => ?_)
  · obtain ⟨_, _, _, _, rfl, _⟩ := h
    rfl
  · obtain ⟨w, h, p, cells, rfl, hp, hw, hh, hl, k⟩ := h
    obtain ⟨a_Picture_init, d_Picture_init, G_Picture_init, M_Picture_init, b_Picture_init⟩ := f_Picture_init
    have nd := sc_drawn.nd
    refine ⟨_, (pss_one (ps_ret (pe_make M_Picture_init G_Picture_init (hr.mono (by decide)) rfl T.gPicture b_Picture_init .nil pass0 (pa_cons pe_int (pa_cons (pe_lc (own := [("y", 3)]) (g := (gName 3)) (tt := tYes) (te := (tSl (rSlL K) (tVar 2) (tPart (tOp _ (tVar 3) (tVar 0))) (tPart (tOp _ (tOp _ (tVar 3) (tVar 0)) (tVar 0))))) rfl nd (pi_range1 (by rfl) T.range (pa_cons (pv 1) pa_nil)) (blkOk_by (own := [("y", 3)]) (N := ["w", "h", "cells", "y"]) (sc := defScope s_drawn) (by decide +kernel)) (fun _ _ _ _ _ => (pg_name (i := 3) nd rfl (Or.inl rfl))) (fun _ _ _ _ _ => pts_nil) (fun _ _ _ _ _ => (pe_slice sl_list (pv 2) (po_some (pe_op op_mul (pv 3) (pv 0))) (po_some (pe_op op_add (pe_op op_mul (pv 3) (pv 0)) (pv 0)))))) pa_nil))))), ?_⟩
    refine ⟨_, rfl, (h : Int), rfl, by omega, by omega, fun D hD => ?_⟩
    refine lc_row (walk_rng (n := h)) (fun y => part (y * w) w cells) hD (Nat.le_trans hh (by decide)) (fun H2 s => trivial) (fun i H x H' y => by rw [y.1]; exact Same.refl _) ?_ (gName_mono 3) ?_
    · rintro i y H2 H3 Q' hi s ⟨rfl, rfl⟩ hQ
      refine ⟨rfl, _, rfl, _, rfl, _, rfl, _, _, rfl, rfl, cmul_l (by omega), _, rfl, _, rfl, _, rfl, _, _, rfl, rfl, cmul_l (by omega), _, rfl, _, _, rfl, rfl, _, rfl, p, _, rfl, SqL.of (s _ _ hp), fun q5 n5 => ?_⟩
      have e : ((i : Int) * (w : Int)) = ((i * w : Nat) : Int) := by simp
      rw [e, cut_part, iv_part]
      exact hQ _ q5 (same_new n5) n5 upd_same
    · intro H2 s r
      exact made_picture (d := 1) r fun H3 b s3 hb => k H3 b (s.trans s3) hb
/-! refusals -/
def sizeI (w h : Nat) : Int := if Ie05.sizeOk w h = true then 0 else -1
def sp_size_refusal : Sp := fun vs H Q _ => ∃ w h : Nat, vs = [.int (w : Int), .int (h : Int)] ∧ Q (.int (sizeI w h)) H
theorem sizeI_no {w h : Nat} (c : w < 1 ∨ 12 < w ∨ h < 1 ∨ 12 < h) : sizeI w h = -1 := by
  unfold sizeI Ie05.sizeOk Ie05.MOST
  rw [if_neg]
  simp
  omega
theorem sizeI_yes {w h : Nat} (c : 1 ≤ w ∧ w ≤ 12 ∧ 1 ≤ h ∧ h ≤ 12) : sizeI w h = 0 := by
  unfold sizeI Ie05.sizeOk Ie05.MOST
  rw [if_pos]
  simp
  omega
theorem ok_size_refusal {f : Addr} {fd : FuncData} (F : Fun K "size_refusal" "size_refusal" s_size_refusal f fd) (T : Txt K mg CPicture CDesk) (c_MOST_IN_A_LINE : Cst mg "MOST_IN_A_LINE" (12)) (c_NOT_THERE : Cst mg "NOT_THERE" (-1)) (c_GRANTED : Cst mg "GRANTED" (0)) : FnOk P w K mg base CX0 1 f fd ["w", "h"] (sp_size_refusal) := by
  refine F.ok sc_size_refusal (fun vs H Q E h => ?_) (fun cdv A outer s H vs Q E hr h => ?_)
  · obtain ⟨w, h, rfl, k⟩ := h
    rfl
  · obtain ⟨w, h, rfl, k⟩ := h
    obtain ⟨t_MOST_IN_A_LINE, c_MOST_IN_A_LINE⟩ := c_MOST_IN_A_LINE
    obtain ⟨t_NOT_THERE, c_NOT_THERE⟩ := c_NOT_THERE
    obtain ⟨t_GRANTED, c_GRANTED⟩ := c_GRANTED
    have nd := sc_size_refusal.nd
    refine ⟨_, (pss_cons (ps_if (PW.pt (pw_or (pt_cmpR op_lt (pv 0) pe_int (nomark _)) (pw_or (pt_cmpR op_gt (pv 0) (pe_glob (v := .int (12)) rfl c_MOST_IN_A_LINE ⟨_, rfl⟩) (nomark _)) (pw_or (pt_cmpR op_lt (pv 1) pe_int (nomark _)) (pw_or1 (pt_cmpR op_gt (pv 1) (pe_glob (v := .int (12)) rfl c_MOST_IN_A_LINE ⟨_, rfl⟩) (nomark _))))))) (pss_one (ps_ret (pe_glob (v := .int (-1)) rfl c_NOT_THERE ⟨_, rfl⟩))) pss_nil) (pss_one (ps_ret (pe_glob (v := .int (0)) rfl c_GRANTED ⟨_, rfl⟩)))), ?_⟩
    refine ⟨_, rfl, _, _, rfl, rfl, _, rfl, tif (fun z => tif_t rfl ?_) (fun z => ?_)⟩
    · rw [sizeI_no (by simp at z; omega)] at k
      exact k
    refine ⟨_, rfl, _, _, rfl, rfl, _, rfl, tif (fun z2 => tif_t rfl ?_) (fun z2 => ?_)⟩
    · rw [sizeI_no (by simp at z2; omega)] at k
      exact k
    refine ⟨_, rfl, _, _, rfl, rfl, _, rfl, tif (fun z3 => tif_t rfl ?_) (fun z3 => ?_)⟩
    · rw [sizeI_no (by simp at z3; omega)] at k
      exact k
    refine ⟨_, rfl, _, _, rfl, rfl, _, rfl, tif (fun z4 => ?_) (fun z4 => ?_)⟩
    · rw [sizeI_no (by simp at z4; omega)] at k
      exact k
    · rw [sizeI_yes (by simp at z z2 z3 z4; omega)] at k
      exact k
def mostI (n m : Nat) : Int := if m < n then -2 else 0
def sp_most_refusal : Sp := fun vs H Q _ => ∃ n m : Nat, vs = [.int (n : Int), .int (m : Int)] ∧ Q (.int (mostI n m)) H
theorem ok_most_refusal {f : Addr} {fd : FuncData} (F : Fun K "most_refusal" "most_refusal" s_most_refusal f fd) (T : Txt K mg CPicture CDesk) (c_TOO_LARGE : Cst mg "TOO_LARGE" (-2)) (c_GRANTED : Cst mg "GRANTED" (0)) : FnOk P w K mg base CX0 1 f fd ["number", "most"] (sp_most_refusal) := by
  refine F.ok sc_most_refusal (fun vs H Q E h => ?_) (fun cdv A outer s H vs Q E hr h => ?_)
  · obtain ⟨n, m, rfl, k⟩ := h
    rfl
  · obtain ⟨n, m, rfl, k⟩ := h
    obtain ⟨t_TOO_LARGE, c_TOO_LARGE⟩ := c_TOO_LARGE
    obtain ⟨t_GRANTED, c_GRANTED⟩ := c_GRANTED
    have nd := sc_most_refusal.nd
    refine ⟨_, (pss_cons (ps_if (pt_cmpR op_gt (pv 0) (pv 1) (nomark _)) (pss_one (ps_ret (pe_glob (v := .int (-2)) rfl c_TOO_LARGE ⟨_, rfl⟩))) pss_nil) (pss_one (ps_ret (pe_glob (v := .int (0)) rfl c_GRANTED ⟨_, rfl⟩)))), ?_⟩
    refine ⟨_, rfl, _, rfl, _, _, rfl, rfl, _, rfl, tif (fun z => ?_) (fun z => ?_)⟩
    · unfold mostI at k
      rw [if_pos (by simp at z; omega)] at k
      exact k
    · unfold mostI at k
      rw [if_neg (by simp at z; omega)] at k
      exact k
def pictureI (w h : Nat) (cells : List Nat) : Int := if Ie05.sizeOk w h = false ∨ cells.length ≠ w * h then -1 else if (cells.all fun x => decide (x ≤ 65535)) = false then -2 else 0
def sp_picture_refusal : Sp := fun vs H Q _ => ∃ (w h : Nat) (p : Addr) (cells : List Nat), vs = [.int (w : Int), .int (h : Int), .ref p] ∧ H p = some (.lst (iv cells)) ∧ w < 2 ^ 32 ∧ h < 2 ^ 32 ∧ Q (.int (pictureI w h cells)) H
theorem sizeI_iff (w h : Nat) : sizeI w h = 0 ↔ Ie05.sizeOk w h = true := by
  unfold sizeI
  split
  · simp [*]
  · simp [*]
theorem ok_picture_refusal {f : Addr} {fd : FuncData} (F : Fun K "picture_refusal" "picture_refusal" s_picture_refusal f fd) (T : Txt K mg CPicture CDesk) (f_most_refusal : Fn P w K mg base 1 "most_refusal" ["number", "most"] (sp_most_refusal)) (f_size_refusal : Fn P w K mg base 1 "size_refusal" ["w", "h"] (sp_size_refusal)) (c_GRANTED : Cst mg "GRANTED" (0)) (c_NOT_THERE : Cst mg "NOT_THERE" (-1)) (c_MOST_IN_A_CELL : Cst mg "MOST_IN_A_CELL" (65535)) : FnOk P w K mg base CX0 2 f fd ["w", "h", "cells"] (sp_picture_refusal) := by
  refine F.ok sc_picture_refusal (fun vs H Q E h => ?_) (fun cdv A outer s H vs Q E hr h => ?_)
  · obtain ⟨w, h, p, cells, rfl, hp, hw, hh, k⟩ := h
    rfl
  · obtain ⟨w, h, p, cells, rfl, hp, hw, hh, k⟩ := h
    obtain ⟨a_most_refusal, d_most_refusal, G_most_refusal, m_most_refusal, k_most_refusal, b_most_refusal⟩ := f_most_refusal
    obtain ⟨a_size_refusal, d_size_refusal, G_size_refusal, m_size_refusal, k_size_refusal, b_size_refusal⟩ := f_size_refusal
    obtain ⟨t_GRANTED, c_GRANTED⟩ := c_GRANTED
    obtain ⟨t_NOT_THERE, c_NOT_THERE⟩ := c_NOT_THERE
    obtain ⟨t_MOST_IN_A_CELL, c_MOST_IN_A_CELL⟩ := c_MOST_IN_A_CELL
    have nd := sc_picture_refusal.nd
    refine ⟨_, (pss_cons (ps_if (PW.pt (pw_or (pt_cmpR op_ne (pe_call G_size_refusal (hr.mono (by decide)) rfl m_size_refusal k_size_refusal b_size_refusal .nil pass0 (pa_cons (pv 0) (pa_cons (pv 1) pa_nil))) (pe_glob (v := .int (0)) rfl c_GRANTED ⟨_, rfl⟩) (nomark _)) (pw_or1 (pt_cmpR op_ne (pe_callB call_len_seq (by rfl) T.len PySem.boot_len (pa_cons (pv 2) pa_nil)) (pe_op op_mul (pv 0) (pv 1)) (nomark _))))) (pss_one (ps_ret (pe_glob (v := .int (-1)) rfl c_NOT_THERE ⟨_, rfl⟩))) pss_nil) (pss_one (ps_ret (pe_call G_most_refusal (hr.mono (by decide)) rfl m_most_refusal k_most_refusal b_most_refusal .nil pass0 (pa_cons (pe_callB (cr_max rfl) (by rfl) T.max (by decide +kernel) (pa_cons (pv 2) pa_nil)) (pa_cons (pe_glob (v := .int (65535)) rfl c_MOST_IN_A_CELL ⟨_, rfl⟩) pa_nil)))))), ?_⟩
    refine ⟨_, rfl, _, rfl, w, h, rfl, rfl, _, rfl, tif (fun z => tif_t rfl ?_) (fun z => ?_)⟩
    · have z : sizeI w h ≠ 0 := by simpa using z
      unfold pictureI at k
      rw [if_pos (.inl (by
        have := mt (sizeI_iff w h).mpr z
        simpa using this))] at k
      exact k
    have z : sizeI w h = 0 := by simpa using z
    have z := (sizeI_iff w h).mp z
    refine ⟨_, rfl, p, _, rfl, .inl (SqL.of hp), _, rfl, _, rfl, _, _, rfl, rfl, .inl ⟨by omega, by omega⟩, rfl, _, rfl, tif (fun z2 => ?_) (fun z2 => ?_)⟩
    · have z2 : ((iv cells).length : Int) ≠ (w : Int) * (h : Int) := by simpa using z2
      unfold pictureI at k
      rw [if_pos (.inr (by
        rw [iv_len] at z2
        intro e
        apply z2
        rw [e]
        simp))] at k
      exact k
    · have z2 : ((iv cells).length : Int) = (w : Int) * (h : Int) := by simpa using z2
      rw [iv_len] at z2
      have z2 : cells.length = w * h := by
        have e : ((cells.length : Nat) : Int) = ((w * h : Nat) : Int) := by rw [z2]; simp
        omega
      have hpos : 0 < cells.length := by
        rw [z2]
        unfold Ie05.sizeOk at z
        simp at z
        exact Nat.mul_pos (by omega) (by omega)
      refine ⟨_, rfl, p, cells.map fun (n : Nat) => (n : Int), rfl, SqL.of (by rw [hp, iv_ints]), by simpa using hpos, fun m hm hle => ?_⟩
      obtain ⟨n, hn, rfl⟩ := List.mem_map.mp hm
      refine ⟨n, 65535, rfl, ?_⟩
      unfold pictureI at k
      rw [if_neg (by simp [z, z2])] at k
      unfold mostI
      by_cases c : 65535 < n
      · rw [if_pos c]
        rw [if_pos (by
          rw [List.all_eq_false]
          exact ⟨n, hn, by simp; omega⟩)] at k
        exact k
      · rw [if_neg c]
        rw [if_neg (by
          simp only [Bool.not_eq_false, List.all_eq_true, decide_eq_true_eq]
          intro x hx
          have := hle (x : Int) (List.mem_map.mpr ⟨x, hx, rfl⟩)
          omega)] at k
        exact k
def cutI (w h x y u v : Nat) : Int := if u < 1 ∨ v < 1 ∨ w < x + u ∨ h < y + v then -1 else 0
def sp_cut_refusal (C : Addr) : Sp := fun vs H Q _ => ∃ (a : Addr) (x y u v d w h : Nat) (rows : Rows), vs = [.ref a, .int (x : Int), .int (y : Int), .int (u : Int), .int (v : Int)] ∧ PicAt C H a d rows ∧ Ok w h rows ∧ 0 < h ∧ Q (.int (cutI w h x y u v)) H
theorem ok_cut_refusal {f : Addr} {fd : FuncData} (F : Fun K "cut_refusal" "cut_refusal" s_cut_refusal f fd) (T : Txt K mg CPicture CDesk) (f_Picture_width : Me P w K mg base 1 CPicture "width" ["self"] (sp_width CPicture)) (f_Picture_height : Me P w K mg base 1 CPicture "height" ["self"] (sp_height CPicture)) (c_NOT_THERE : Cst mg "NOT_THERE" (-1)) (c_GRANTED : Cst mg "GRANTED" (0)) : FnOk P w K mg base CX0 2 f fd ["picture", "x", "y", "u", "v"] (sp_cut_refusal CPicture) := by
  refine F.ok sc_cut_refusal (fun vs H Q E h => ?_) (fun cdv A outer s H vs Q E hr h => ?_)
  · obtain ⟨_, _, _, _, _, _, _, _, _, rfl, _⟩ := h
    rfl
  · obtain ⟨a, x, y, u, v, d, w, h, rows, rfl, hP, ok, hh, k⟩ := h
    obtain ⟨a_Picture_width, d_Picture_width, G_Picture_width, m_Picture_width, b_Picture_width⟩ := f_Picture_width
    obtain ⟨a_Picture_height, d_Picture_height, G_Picture_height, m_Picture_height, b_Picture_height⟩ := f_Picture_height
    obtain ⟨t_NOT_THERE, c_NOT_THERE⟩ := c_NOT_THERE
    obtain ⟨t_GRANTED, c_GRANTED⟩ := c_GRANTED
    have nd := sc_cut_refusal.nd
    refine ⟨_, (pss_cons (ps_if (PW.pt (pw_or (pt_cmpR op_eq (pv 3) pe_int (nomark _)) (pw_or (pt_cmpR op_eq (pv 4) pe_int (nomark _)) (pw_or (pt_cmpR op_gt (pe_op op_add (pv 1) (pv 3)) (pe_meth0 (pv 0) T.clPicture m_Picture_width G_Picture_width (hr.mono (by decide)) b_Picture_width .nil pass0) (nomark _)) (pw_or1 (pt_cmpR op_gt (pe_op op_add (pv 2) (pv 4)) (pe_meth0 (pv 0) T.clPicture m_Picture_height G_Picture_height (hr.mono (by decide)) b_Picture_height .nil pass0) (nomark _))))))) (pss_one (ps_ret (pe_glob (v := .int (-1)) rfl c_NOT_THERE ⟨_, rfl⟩))) pss_nil) (pss_one (ps_ret (pe_glob (v := .int (0)) rfl c_GRANTED ⟨_, rfl⟩)))), ?_⟩
    have h0 : 0 < rows.length := by rw [ok.len]; exact hh
    have hr0 := List.getElem?_eq_getElem h0
    have hlen : ((rows[0].length : Nat) : Int) = (w : Int) := by rw [ok.row _ (List.getElem_mem h0)]
    have hlen2 : ((rows.length : Nat) : Int) = (h : Int) := by rw [ok.len]
    have hP0 := hP
    obtain ⟨dx, p, ha, hR⟩ := hP
    unfold cutI at k
    refine ⟨_, rfl, rfl, _, rfl, tif (fun z => tif_t rfl ?_) (fun z => ?_)⟩
    · have z := int_eq z
      rw [if_pos (.inl (by omega))] at k
      exact k
    have z := int_ne z
    refine ⟨_, rfl, rfl, _, rfl, tif (fun z2 => tif_t rfl ?_) (fun z2 => ?_)⟩
    · have z2 := int_eq z2
      rw [if_pos (.inr (.inl (by omega)))] at k
      exact k
    have z2 := int_ne z2
    refine ⟨_, rfl, _, rfl, _, _, rfl, rfl, _, rfl, a, dx, _, rfl, ha, pf_no _ _ (by decide +kernel) (by decide +kernel), a, d, rows, rows[0], rfl, hP0, hr0, _, _, rfl, rfl, _, rfl, tif (fun z3 => tif_t rfl ?_) (fun z3 => ?_)⟩
    · rw [hlen] at z3
      simp at z3
      rw [if_pos (.inr (.inr (.inl (by omega))))] at k
      exact k
    rw [hlen] at z3
    refine ⟨_, rfl, _, rfl, _, _, rfl, rfl, _, rfl, a, dx, _, rfl, ha, pf_no _ _ (by decide +kernel) (by decide +kernel), a, d, rows, rfl, hP0, _, _, rfl, rfl, _, rfl, tif (fun z4 => ?_) (fun z4 => ?_)⟩
    · rw [hlen2] at z4
      simp at z4
      rw [if_pos (.inr (.inr (.inr (by omega))))] at k
      exact k
    · rw [hlen2] at z4
      simp at z3 z4
      rw [if_neg (by omega)] at k
      exact k
end
end Pa

set_option Elab.async false
set_option maxRecDepth 100000
set_option maxHeartbeats 4000000
set_option linter.all false
namespace Pa
open PySem PySem.Spec PyProof.Rows L2
section
variable {P : Program} {w : World} {K : PySem.W.Frag} {mg : Str → Option Value} {base : Heap} {CPicture CDesk : Addr}
/-- a tuple of whole numbers of the top -/
def Tup (K : PySem.W.Frag) (mg : Str → Option Value) (x : Str) (l : List Int) : Prop := ∃ a, mg x = some (.ref a) ∧ ∃ (o : Obj) (its : Array Value) (n : Nat), K.lookup a = some o ∧ o.cls = .type "tuple" ∧ o.data = .seq its n ∧ its.size ≤ sizeLine ∧ Vals (l.map V.int) its.toList
def sp_answers (K : PySem.W.Frag) : Sp := fun vs H Q _ => ∃ (a : Addr) (ns : List Int), vs = [.ref a] ∧ SqL K H a (ns.map V.int) ∧ ns.length ≤ 6160 ∧ (∀ x ∈ ns, 0 ≤ x ∧ x ≤ 4294967295) ∧ PyIe05.answers_asked ns = true ∧
  ∀ (H' : Hp) (p : Addr), H' p = some (.lst ((PyIe05.answers ns).map V.int)) → Q (.ref p) H'
end
end Pa

set_option Elab.async false
set_option maxRecDepth 100000
set_option maxHeartbeats 4000000
set_option linter.all false
namespace Pa
open PySem PySem.Spec PyProof.Rows L2
section
variable {P : Program} {w : World} {K : PySem.W.Frag} {mg : Str → Option Value} {base : Heap} {CPicture CDesk : Addr}
/-! nearest_whole -/
def sp_nearest_whole : Sp := fun vs H Q _ => ∃ u l : Nat, vs = [.int (u : Int), .int (l : Int)] ∧ 0 < l ∧ l < 2 ^ 62 ∧ Q (.int ((Ie05.near u l : Nat) : Int)) H
theorem near_int (u l : Nat) : (2 * (u : Int) + (l : Int)) / (2 * (l : Int)) = ((Ie05.near u l : Nat) : Int) := by
  unfold Ie05.near
  simp
theorem ok_nearest_whole {f : Addr} {fd : FuncData} (F : Fun K "nearest_whole" "nearest_whole" s_nearest_whole f fd) (T : Txt K mg CPicture CDesk)  : FnOk P w K mg base CX0 1 f fd ["upper", "lower"] (sp_nearest_whole) := by
  refine F.ok sc_nearest_whole (fun vs H Q E h => ?_) (fun cdv A outer s H vs Q E hr h => ?_)
  · obtain ⟨u, l, rfl, hl, hl2, k⟩ := h
    rfl
  · obtain ⟨u, l, rfl, hl, hl2, k⟩ := h
    have nd := sc_nearest_whole.nd
    refine ⟨_, (pss_one (ps_ret (pe_op op_fdivW (pe_op op_add (pe_op op_mul pe_int (pv 0)) (pv 1)) (pe_op op_mul pe_int (pv 1))))), ?_⟩
    refine ⟨_, rfl, _, _, rfl, rfl, cmul_l (a := 2) (by omega), _, rfl, _, _, rfl, rfl, _, rfl, _, _, rfl, rfl, cmul_l (a := 2) (by omega), _, _, rfl, rfl, wide_div (b := 64) (by omega) (by omega) (by decide) (by decide), ?_⟩
    rw [← near_int] at k
    exact k
/-! lines_of -/
theorem rep_flat (w c : Nat) : (List.replicate ((w : Int).toNat) [V.int (c : Int)]).flatten = iv (List.replicate w c) := by
  rw [Int.toNat_natCast]
  unfold iv
  induction w with
  | zero => rfl
  | succ w ih =>
    rw [List.replicate_succ, List.flatten_cons, ih, List.replicate_succ]
    rfl
def sp_lines_of : Sp := fun vs H Q _ => ∃ c w h : Nat, vs = [.int (c : Int), .int (w : Int), .int (h : Int)] ∧ w ≤ 1000 ∧ h ≤ 1000 ∧
  ∀ H' q, Same H H' → H q = none → RowsAt H' q (linesR c w h) → Q (.ref q) H'
theorem sz1000 {n : Nat} (h : n ≤ 1000) : n ≤ sizeLine := Nat.le_trans h (by decide)
theorem ok_lines_of {f : Addr} {fd : FuncData} (F : Fun K "lines_of" "lines_of" s_lines_of f fd) (T : Txt K mg CPicture CDesk)  : FnOk P w K mg base CX0 1 f fd ["cell", "width", "height"] (sp_lines_of) := by
  refine F.ok sc_lines_of (fun vs H Q E h => ?_) (fun cdv A outer s H vs Q E hr h => ?_)
  · obtain ⟨c, w, h, rfl, hw, hh, k⟩ := h
    rfl
  · obtain ⟨c, w, h, rfl, hw, hh, k⟩ := h
    have nd := sc_lines_of.nd
    refine ⟨_, (pss_one (ps_ret (pe_lc (own := [("y", 3)]) (g := (gName 3)) (tt := tYes) (te := (tOp _ (tLst (tCons (tVar 0) tNil)) (tVar 1))) rfl nd (pi_range1 (by rfl) T.range (pa_cons (pv 2) pa_nil)) (blkOk_by (own := [("y", 3)]) (N := ["cell", "width", "height", "y"]) (sc := defScope s_lines_of) (by decide +kernel)) (fun _ _ _ _ _ => (pg_name (i := 3) nd rfl (Or.inl rfl))) (fun _ _ _ _ _ => pts_nil) (fun _ _ _ _ _ => (pe_op op_rep (pe_lst (pa_cons (pv 0) pa_nil)) (pv 1)))))), ?_⟩
    refine ⟨_, rfl, (h : Int), rfl, by omega, by omega, fun D hD => ?_⟩
    refine lc_row (walk_rng (n := h)) (fun _ => List.replicate w c) hD (sz1000 hh) (fun H2 s => trivial) (fun i H x H' y => by rw [y.1]; exact Same.refl _) ?_ (gName_mono 3) ?_
    · rintro i y H2 H3 Q' hi s ⟨rfl, rfl⟩ hQ
      refine ⟨rfl, _, rfl, (by show 1 ≤ sizeLine; decide), fun p np => ⟨_, rfl, p, _, _, rfl, rfl, upd_same, by omega, by omega, ?_, fun q nq => ?_⟩⟩
      · rw [Int.toNat_natCast, List.length_singleton, Nat.one_mul]
        exact sz1000 hw
      · rw [rep_flat]
        have s5 := same_newer (o := .lst (iv (List.replicate w c))) (same_new (o := .lst [V.int (c : Int)]) np) nq
        exact hQ _ q s5 ((same_new np).free nq) upd_same
    · intro H2 s hD2
      exact k H2 D s hD hD2
/-! bordered -/
theorem iv_app (a b : List Nat) : iv a ++ iv b = iv (a ++ b) := by simp [iv]
theorem RowsAt.app {H : Hp} {p1 p2 : Addr} {r1 r2 : Rows} (h1 : RowsAt H p1 r1) (h2 : RowsAt H p2 r2) : ∃ xs ys, H p1 = some (.lst xs) ∧ H p2 = some (.lst ys) ∧ xs.length = r1.length ∧ ys.length = r2.length ∧
    ∀ (H' : Hp) (p : Addr), Same H H' → H' p = some (.lst (xs ++ ys)) → RowsAt H' p (r1 ++ r2) := by
  obtain ⟨q1, a1, a2, a3⟩ := h1
  obtain ⟨q2, b1, b2, b3⟩ := h2
  refine ⟨_, _, a1, b1, by simp [a2], by simp [b2], fun H' p s e => ⟨q1 ++ q2, by rw [e, List.map_append], by simp [a2, b2], fun i q r hq hr => ?_⟩⟩
  by_cases hi : i < q1.length
  · rw [List.getElem?_append_left hi] at hq
    rw [List.getElem?_append_left (by omega)] at hr
    exact s _ _ (a3 i q r hq hr)
  · rw [List.getElem?_append_right (by omega)] at hq
    rw [List.getElem?_append_right (by omega), ← a2] at hr
    exact s _ _ (b3 _ q r hq hr)
def sp_bordered (C : Addr) : Sp := fun vs H Q _ => ∃ (a : Addr) (l t r b f d w h : Nat) (rows : Rows), vs = [.ref a, .int (l : Int), .int (t : Int), .int (r : Int), .int (b : Int), .int (f : Int)] ∧ PicAt C H a d rows ∧ Ok w h rows ∧ d < 2 ^ 32 ∧ 0 < h ∧ l + w + r ≤ 12 ∧ t + h + b ≤ 12 ∧ f ≤ 65535 ∧
  ∀ H' q, Same H H' → PicAt C H' q d (bordL l t r b (f * d) (l + w + r) rows) → Q (.ref q) H'
theorem ok_bordered {f : Addr} {fd : FuncData} (F : Fun K "bordered" "bordered" s_bordered f fd) (T : Txt K mg CPicture CDesk) (f_Picture_init : Ma P w K mg base 1 CPicture ["self", "d", "rows"] (sp_Picture CPicture)) (f_Picture_width : Me P w K mg base 1 CPicture "width" ["self"] (sp_width CPicture)) (f_lines_of : Fn P w K mg base 1 "lines_of" ["cell", "width", "height"] (sp_lines_of)) : FnOk P w K mg base CX0 3 f fd ["picture", "left", "above", "right", "below", "f"] (sp_bordered CPicture) := by
  refine F.ok sc_bordered (fun vs H Q E h => ?_) (fun cdv A outer s H vs Q E hr h => ?_)
  · obtain ⟨_, _, _, _, _, _, _, _, _, _, rfl, _⟩ := h
    rfl
  · obtain ⟨a, l, t, r, b, f, d, w, h, rows, rfl, hP, ok, hd, hh, hw2, hh2, hf, k⟩ := h
    obtain ⟨a_Picture_init, d_Picture_init, G_Picture_init, M_Picture_init, b_Picture_init⟩ := f_Picture_init
    obtain ⟨a_Picture_width, d_Picture_width, G_Picture_width, m_Picture_width, b_Picture_width⟩ := f_Picture_width
    obtain ⟨a_lines_of, d_lines_of, G_lines_of, m_lines_of, k_lines_of, b_lines_of⟩ := f_lines_of
    have nd := sc_bordered.nd
    refine ⟨_, (pss_cons (ps_set (i := 6) nd rfl (Or.inr rfl) (pe_op op_mul (pv 5) (pe_fld (pv 0) rfl))) (pss_cons (ps_set (i := 7) nd rfl (Or.inl rfl) (pe_op op_add (pe_op op_add (pv 1) (pe_meth0 (pv 0) T.clPicture m_Picture_width G_Picture_width (hr.mono (by decide)) b_Picture_width .nil pass0)) (pv 3))) (pss_cons (ps_setLc (i := 8) (own := [("row", 9)]) (g := (gName 9)) (tt := tYes) (te := (tOp _ (tOp _ (tOp _ (tLst (tCons (tVar 6) tNil)) (tVar 1)) (tVar 9)) (tOp _ (tLst (tCons (tVar 6) tNil)) (tVar 3)))) rfl nd rfl rfl (sw_true rfl rfl rfl (by decide +kernel)) (pi_list (pe_fld (pv 0) rfl)) (blkOk_by (own := [("row", 9)]) (N := ["picture", "left", "above", "right", "below", "f", "cell", "width", "middle", "row"]) (sc := defScope s_bordered) (by decide +kernel)) (fun _ _ _ _ _ => (pg_name (i := 9) nd rfl (Or.inl rfl))) (fun _ _ _ _ _ => pts_nil) (fun _ _ _ _ _ => (pe_op op_cat (pe_op op_cat (pe_op op_rep (pe_lst (pa_cons (pv 6) pa_nil)) (pv 1)) (pv 9)) (pe_op op_rep (pe_lst (pa_cons (pv 6) pa_nil)) (pv 3))))) (pss_one (ps_ret (pe_make M_Picture_init G_Picture_init (hr.mono (by decide)) rfl T.gPicture b_Picture_init .nil pass0 (pa_cons (pe_fld (pv 0) rfl) (pa_cons (pe_op op_cat (pe_op op_cat (pe_call G_lines_of (hr.mono (by decide)) rfl m_lines_of k_lines_of b_lines_of .nil pass0 (pa_cons (pv 6) (pa_cons (pv 7) (pa_cons (pv 2) pa_nil)))) (pv 8)) (pe_call G_lines_of (hr.mono (by decide)) rfl m_lines_of k_lines_of b_lines_of .nil pass0 (pa_cons (pv 6) (pa_cons (pv 7) (pa_cons (pv 4) pa_nil))))) pa_nil)))))))), ?_⟩
    have h0 : 0 < rows.length := by rw [ok.len]; exact hh
    have hr0 := List.getElem?_eq_getElem h0
    have hP0 := hP
    obtain ⟨dx, p, ha, hR⟩ := hP
    obtain ⟨qs, hp, hql, hqq⟩ := hR
    have hlen : ((rows[0].length : Nat) : Int) = (w : Int) := by rw [ok.row _ (List.getElem_mem h0)]
    have ec : (f : Int) * (d : Int) = ((f * d : Nat) : Int) := by simp
    have ew : (l : Int) + (w : Int) + (r : Int) = ((l + w + r : Nat) : Int) := by simp
    refine ⟨_, rfl, _, rfl, a, CPicture, dx, _, _, rfl, ha, T.clPicture, T.nD, pf_d _ _, _, _, rfl, rfl, .inl ⟨by omega, by omega⟩, ?_⟩
    refine ⟨_, rfl, _, rfl, a, dx, _, rfl, ha, pf_no _ _ (by decide +kernel) (by decide +kernel), a, d, rows, rows[0], rfl, hP0, hr0, _, _, rfl, rfl, _, rfl, _, _, rfl, rfl, ?_⟩
    dsimp only
    rw [hlen, ec, ew]
    generalize hc : f * d = c
    refine ⟨_, rfl, a, CPicture, dx, _, _, rfl, ha, T.clPicture, T.nR, pf_rows _ _, p, rfl, ⟨_, SqL.of hp⟩, fun D hD => ?_⟩
    refine lc_row (walk_list (K := K) (a := p) (xs := qs.map V.ref)) (fun i => List.replicate l c ++ rows.getD i [] ++ List.replicate r c) hD (by rw [List.length_map, hql, ok.len]; exact sz1000 (by omega)) (fun H2 s => SqL.of (s _ _ hp)) (fun i H x H' y => by rw [y.1]; exact Same.refl _) ?_ (gName_mono 9) ?_
    · rintro j y H2 H3 Q' hj s ⟨rfl, hy⟩ hQ
      obtain ⟨z, hzi, rfl⟩ := refs_of hy
      have hj : j < rows.length := by
        have := (List.getElem?_eq_some_iff.mp hzi).1
        omega
      have hrj := List.getElem?_eq_getElem hj
      have e : rows.getD j [] = rows[j] := by simp [List.getD, hrj]
      rw [e] at hQ
      have hz := s _ _ (hqq j z _ hzi hrj)
      have hzl : rows[j].length = w := ok.row _ (List.getElem_mem hj)
      refine ⟨rfl, _, rfl, (by show 1 ≤ sizeLine; decide), fun p1 n1 => ⟨_, rfl, p1, _, _, rfl, rfl, upd_same, by omega, by omega, ?_, fun p2 n2 => ?_⟩⟩
      · rw [Int.toNat_natCast, List.length_singleton, Nat.one_mul]
        exact sz1000 (by omega)
      rw [rep_flat]
      have s1 := same_new (o := .lst [V.int (c : Int)]) n1
      have s2 := same_newer (o := .lst (iv (List.replicate l c))) s1 n2
      refine ⟨_, rfl, p2, z, _, _, rfl, rfl, upd_same, s2 _ _ hz, ?_, fun p3 n3 => ?_⟩
      · rw [iv_len, iv_len, hzl, List.length_replicate]
        exact sz1000 (by omega)
      rw [iv_app]
      have s3 := same_newer (o := .lst (iv (List.replicate l c ++ rows[j]))) s2 n3
      refine ⟨_, rfl, (by show 1 ≤ sizeLine; decide), fun p4 n4 => ⟨_, rfl, p4, _, _, rfl, rfl, upd_same, by omega, by omega, ?_, fun p5 n5 => ?_⟩⟩
      · rw [Int.toNat_natCast, List.length_singleton, Nat.one_mul]
        exact sz1000 (by omega)
      rw [rep_flat]
      have s4 := same_new (o := .lst [V.int (c : Int)]) n4
      have s5 := same_newer (o := .lst (iv (List.replicate r c))) s4 n5
      refine ⟨p3, p5, _, _, rfl, rfl, s5 _ _ upd_same, upd_same, ?_, fun p6 n6 => ?_⟩
      · rw [iv_len, iv_len, List.length_append, hzl, List.length_replicate, List.length_replicate]
        exact sz1000 (by omega)
      rw [iv_app]
      exact hQ _ p6 (same_newer (s3.trans s5) n6) ((s3.trans s5).free n6) upd_same
    · intro H2 s r2
      have e : (List.range (qs.map V.ref).length).map (fun i => List.replicate l c ++ rows.getD i [] ++ List.replicate r c) = midR c l r rows := by
        rw [List.length_map, hql]
        exact map_range_rows rows fun q => List.replicate l c ++ q ++ List.replicate r c
      rw [e] at r2
      have lm : (midR c l r rows).length = h := by simp [midR, ok.len]
      refine ⟨_, rfl, a, CPicture, dx, _, _, rfl, s _ _ ha, T.clPicture, T.nD, pf_d _ _, ?_⟩
      refine ⟨_, rfl, _, rfl, _, rfl, c, l + w + r, t, rfl, by omega, by omega, fun H3 q3 s3 n3 r3 => ?_⟩
      obtain ⟨xs, ys, x1, x2, x3, x4, x5⟩ := r3.app (r2.same s3)
      rw [linesR_len] at x3
      rw [lm] at x4
      refine ⟨_, rfl, q3, D, xs, ys, rfl, rfl, x1, x2, by rw [x3, x4]; exact sz1000 (by omega), fun p4 n4 => ?_⟩
      have s4 := same_new (o := .lst (xs ++ ys)) n4
      have r4 := x5 _ p4 s4 upd_same
      refine ⟨_, rfl, _, rfl, _, rfl, c, l + w + r, b, rfl, by omega, by omega, fun H5 q5 s5 n5 r5 => ?_⟩
      obtain ⟨xs2, ys2, y1, y2, y3, y4, y5⟩ := (r4.same s5).app r5
      rw [linesR_len] at y4
      rw [List.length_append, linesR_len, lm] at y3
      refine ⟨p4, q5, xs2, ys2, rfl, rfl, y1, y2, by rw [y3, y4]; exact sz1000 (by omega), fun p6 n6 => ?_⟩
      have s6 := same_new (o := .lst (xs2 ++ ys2)) n6
      have r6 := y5 _ p6 s6 upd_same
      subst hc
      exact made_picture r6 fun H7 q7 s7 h7 => k H7 q7 (s.trans (s3.trans (s4.trans (s5.trans (s6.trans s7))))) h7
end
end Pa

set_option Elab.async false
set_option maxRecDepth 100000
set_option maxHeartbeats 4000000
set_option linter.all false
namespace Pa
open PySem PySem.Spec PyProof.Rows L2
section
variable {P : Program} {w : World} {K : PySem.W.Frag} {mg : Str → Option Value} {base : Heap} {CPicture CDesk : Addr}
/-! moved_on, leaned -/
theorem cut_from (xs : List V) (s : Nat) : cutV xs (some (s : Int)) none = xs.drop s := by
  unfold cutV
  rw [HT.sIx_nat, HT.sIx_none]
  by_cases h : s ≤ xs.length
  · rw [Nat.min_eq_left h]
    apply List.take_of_length_le
    simp
  · rw [List.drop_eq_nil_of_le (show xs.length ≤ min s xs.length by omega), List.drop_eq_nil_of_le (show xs.length ≤ s by omega)]
    simp
theorem cut_to (xs : List V) (s : Nat) : cutV xs none (some (s : Int)) = xs.take s := by
  unfold cutV
  rw [HT.sIx_nat, HT.sIx_none, List.drop_zero, Nat.sub_zero]
  by_cases h : s ≤ xs.length
  · rw [Nat.min_eq_left h]
  · rw [Nat.min_eq_right (by omega), List.take_of_length_le (by omega), List.take_of_length_le (by omega)]
def sp_moved_on : Sp := fun vs H Q _ => ∃ (a : Addr) (r : List Nat) (m : Nat), vs = [.ref a, .int (m : Int)] ∧ H a = some (.lst (iv r)) ∧ 0 < r.length ∧ r.length ≤ 1000 ∧
  ∀ H' q, Same H H' → H q = none → H' q = some (.lst (iv (moved r m))) → Q (.ref q) H'
theorem ok_moved_on {f : Addr} {fd : FuncData} (F : Fun K "moved_on" "moved_on" s_moved_on f fd) (T : Txt K mg CPicture CDesk)  : FnOk P w K mg base CX0 1 f fd ["row", "steps"] (sp_moved_on) := by
  refine F.ok sc_moved_on (fun vs H Q E h => ?_) (fun cdv A outer s H vs Q E hr h => ?_)
  · obtain ⟨a, r, m, rfl, ha, hl, hl2, k⟩ := h
    rfl
  · obtain ⟨a, r, m, rfl, ha, hl, hl2, k⟩ := h
    have nd := sc_moved_on.nd
    refine ⟨_, (pss_cons (ps_set (i := 2) nd rfl (Or.inl rfl) (pe_op op_sub (pe_callB call_len_seq (by rfl) T.len PySem.boot_len (pa_cons (pv 0) pa_nil)) (pe_op op_modN (pv 1) (pe_callB call_len_seq (by rfl) T.len PySem.boot_len (pa_cons (pv 0) pa_nil))))) (pss_one (ps_ret (pe_op op_cat (pe_slice sl_list (pv 0) (po_some (pv 2)) po_none) (pe_slice sl_list (pv 0) po_none (po_some (pv 2))))))), ?_⟩
    have hm := Nat.mod_lt m hl
    have e : ((iv r).length : Int) - Int.fmod (m : Int) ((iv r).length : Int) = ((r.length - m % r.length : Nat) : Int) := by
      rw [iv_len, fmod_nat]
      omega
    refine ⟨_, rfl, a, _, rfl, .inl (SqL.of ha), _, rfl, _, rfl, a, _, rfl, .inl (SqL.of ha), _, _, rfl, rfl, by rw [iv_len]; omega, _, _, rfl, rfl, ?_⟩
    dsimp only
    rw [e]
    refine ⟨_, rfl, _, rfl, _, rfl, a, _, rfl, SqL.of ha, fun p1 n1 => ?_⟩
    rw [cut_from]
    have s1 := same_new (o := .lst ((iv r).drop (r.length - m % r.length))) n1
    refine ⟨_, rfl, _, rfl, _, rfl, a, _, rfl, SqL.of (s1 _ _ ha), fun p2 n2 => ?_⟩
    rw [cut_to]
    have s2 := same_new (o := .lst ((iv r).take (r.length - m % r.length))) n2
    refine ⟨p1, p2, _, _, rfl, rfl, s2 _ _ upd_same, upd_same, ?_, fun p3 n3 => ?_⟩
    · simp only [List.length_drop, List.length_take, iv_len]
      exact sz1000 (by omega)
    · refine k _ p3 (same_newer (s1.trans s2) n3) ((s1.trans s2).free n3) ?_
      rw [upd_same]
      unfold moved iv
      rw [List.map_append, List.map_drop, List.map_take]
def sp_leaned (C : Addr) : Sp := fun vs H Q _ => ∃ (a : Addr) (k d w h : Nat) (rows : Rows), vs = [.ref a, .int (k : Int)] ∧ PicAt C H a d rows ∧ Ok w h rows ∧ 0 < w ∧ w ≤ 12 ∧ h ≤ 12 ∧ k ≤ 11 ∧
  ∀ H' q, Same H H' → PicAt C H' q d (leanL k rows) → Q (.ref q) H'
theorem ok_leaned {f : Addr} {fd : FuncData} (F : Fun K "leaned" "leaned" s_leaned f fd) (T : Txt K mg CPicture CDesk) (f_Picture_init : Ma P w K mg base 1 CPicture ["self", "d", "rows"] (sp_Picture CPicture)) (f_moved_on : Fn P w K mg base 1 "moved_on" ["row", "steps"] (sp_moved_on)) : FnOk P w K mg base CX0 3 f fd ["picture", "k"] (sp_leaned CPicture) := by
  refine F.ok sc_leaned (fun vs H Q E h => ?_) (fun cdv A outer s H vs Q E hr h => ?_)
  · obtain ⟨a, k, d, w, h, rows, rfl, _⟩ := h
    rfl
  · obtain ⟨a, k, d, w, h, rows, rfl, ⟨dx, p, ha, qs, hp, hql, hqq⟩, ok, hw, hw2, hh2, hk, kk⟩ := h
    obtain ⟨a_Picture_init, d_Picture_init, G_Picture_init, M_Picture_init, b_Picture_init⟩ := f_Picture_init
    obtain ⟨a_moved_on, d_moved_on, G_moved_on, m_moved_on, k_moved_on, b_moved_on⟩ := f_moved_on
    have nd := sc_leaned.nd
    refine ⟨_, (pss_one (ps_ret (pe_make M_Picture_init G_Picture_init (hr.mono (by decide)) rfl T.gPicture b_Picture_init .nil pass0 (pa_cons (pe_fld (pv 0) rfl) (pa_cons (pe_lc (own := [("y", 2), ("row", 3)]) (g := (gTup K 2 (gCons (gName 2) (gCons (gName 3) gNil)))) (tt := tYes) (te := _) rfl nd (pi_enum (by rfl) T.enumerate (pa_cons (pe_fld (pv 0) rfl) pa_nil)) (blkOk_by (own := [("y", 2), ("row", 3)]) (N := ["picture", "k", "y", "row"]) (sc := defScope s_leaned) (by decide +kernel)) (fun _ _ _ _ _ => (pg_tup rfl (pgs_cons (pg_name (i := 2) nd rfl (Or.inl rfl)) (pgs_cons (pg_name (i := 3) nd rfl (Or.inl rfl)) pgs_nil)))) (fun _ _ _ _ _ => pts_nil) (fun _ _ _ _ _ => (pe_call G_moved_on (hr.mono (by decide)) rfl m_moved_on k_moved_on b_moved_on .nil pass0 (pa_cons (pv 3) (pa_cons (pe_op op_mul (pv 1) (pv 2)) pa_nil))))) pa_nil))))), ?_⟩
    refine ⟨_, rfl, a, CPicture, dx, _, _, rfl, ha, T.clPicture, T.nD, pf_d _ _, ?_⟩
    refine ⟨_, rfl, a, CPicture, dx, _, _, rfl, ha, T.clPicture, T.nR, pf_rows _ _, p, _, rfl, SqL.of hp, fun D hD => ?_⟩
    refine lc_row (walk_enum (K := K) (a := p) (xs := qs.map V.ref)) (fun y => moved (rows.getD y []) (k * y)) hD (by rw [List.length_map, hql, ok.len]; exact sz1000 (by omega)) (fun H2 s => SqL.of (s _ _ hp))
      (fun i H x H' y => by obtain ⟨T, x, y, _, n, e, _⟩ := y; rw [e]; exact same_new n) ?_ (gPair_mono K 2 3) ?_
    · rintro j y H2 H3 Q' hj s ⟨t, x, y, rfl, nt, rfl, hx, hy⟩ hQ
      have hx : V.int ((j : Nat) : Int) = x := Option.some.inj hx
      subst hx
      obtain ⟨z, hzi, rfl⟩ := refs_of hy
      have hj : j < rows.length := by
        have := (List.getElem?_eq_some_iff.mp hzi).1
        omega
      have hrj := List.getElem?_eq_getElem hj
      have e : rows.getD j [] = rows[j] := by simp [List.getD, hrj]
      rw [e] at hQ
      have hz := s _ _ (hqq j z _ hzi hrj)
      have hzl : rows[j].length = w := ok.row _ (List.getElem_mem hj)
      have em : (k : Int) * (j : Int) = ((k * j : Nat) : Int) := by simp
      refine ⟨t, _, rfl, SqT.of upd_same, rfl, _, _, rfl, _, _, rfl, rfl, rfl, _, rfl, _, rfl, _, rfl, _, _, rfl, rfl, cmul_l (by omega), ?_⟩
      exact ⟨z, rows[j], k * j, by simp, same_new nt _ _ hz, by omega, by omega, hQ⟩
    · intro H2 s r2
      have e : (List.range (qs.map V.ref).length).map (fun y => moved (rows.getD y []) (k * y)) = leanL k rows := by
        rw [List.length_map, hql]
        rfl
      rw [e] at r2
      exact made_picture r2 fun H3 q s3 h3 => kk H3 q (s.trans s3) h3
/-! row_rounded, rounded -/
def sp_row_rounded : Sp := fun vs H Q _ => ∃ (a : Addr) (r : List Nat) (d : Nat), vs = [.ref a, .int (d : Int)] ∧ H a = some (.lst (iv r)) ∧ 0 < d ∧ d < 2 ^ 62 ∧ r.length ≤ 1000 ∧
  ∀ H' q, Same H H' → H q = none → H' q = some (.lst (iv (r.map fun n => Ie05.near n d))) → Q (.ref q) H'
theorem ok_row_rounded {f : Addr} {fd : FuncData} (F : Fun K "row_rounded" "row_rounded" s_row_rounded f fd) (T : Txt K mg CPicture CDesk) (f_nearest_whole : Fn P w K mg base 1 "nearest_whole" ["upper", "lower"] (sp_nearest_whole)) : FnOk P w K mg base CX0 2 f fd ["row", "d"] (sp_row_rounded) := by
  refine F.ok sc_row_rounded (fun vs H Q E h => ?_) (fun cdv A outer s H vs Q E hr h => ?_)
  · obtain ⟨a, r, d, rfl, ha, hd, hd2, hl, k⟩ := h
    rfl
  · obtain ⟨a, r, d, rfl, ha, hd, hd2, hl, k⟩ := h
    obtain ⟨a_nearest_whole, d_nearest_whole, G_nearest_whole, m_nearest_whole, k_nearest_whole, b_nearest_whole⟩ := f_nearest_whole
    have nd := sc_row_rounded.nd
    refine ⟨_, (pss_one (ps_ret (pe_lc (own := [("cell", 2)]) (g := (gName 2)) (tt := tYes) (te := _) rfl nd (pi_list (pv 0)) (blkOk_by (own := [("cell", 2)]) (N := ["row", "d", "cell"]) (sc := defScope s_row_rounded) (by decide +kernel)) (fun _ _ _ _ _ => (pg_name (i := 2) nd rfl (Or.inl rfl))) (fun _ _ _ _ _ => pts_nil) (fun _ _ _ _ _ => (pe_call G_nearest_whole (hr.mono (by decide)) rfl m_nearest_whole k_nearest_whole b_nearest_whole .nil pass0 (pa_cons (pv 2) (pa_cons (pv 1) pa_nil))))))), ?_⟩
    refine ⟨_, rfl, a, rfl, ⟨_, SqL.of ha⟩, fun D hD => ?_⟩
    refine lc_int (walk_list (K := K) (a := a) (xs := iv r)) (fun i => Ie05.near (r.getD i 0) d) hD (by rw [iv_len]; exact sz1000 hl) (fun H' s => SqL.of (s _ _ ha)) (fun i H x H' y => by rw [y.1]; exact Same.refl _) ?_ (gName_mono 2) ?_
    · rintro i x H2 H3 Q' hi s ⟨rfl, hx⟩ hq
      obtain ⟨n, hn, rfl⟩ := iv_of hx
      have hq := hq H3 (Same.refl _)
      have e : r.getD i 0 = n := by simp [List.getD, hn]
      rw [e] at hq
      exact ⟨rfl, _, rfl, _, rfl, n, d, rfl, hd, hd2, hq⟩
    · intro H2 s hD2
      refine k H2 D s hD ?_
      rw [hD2]
      congr 3
      rw [iv_len]
      apply List.ext_getElem?
      intro i
      by_cases hi : i < r.length
      · simp [List.getElem?_map, List.getElem?_range hi, List.getElem?_eq_getElem hi, List.getD]
      · rw [List.getElem?_eq_none (by simp; omega), List.getElem?_eq_none (by simp; omega)]
def sp_rounded (C : Addr) : Sp := fun vs H Q _ => ∃ (a : Addr) (d : Nat) (rows : Rows), vs = [.ref a] ∧ PicAt C H a d rows ∧ 0 < d ∧ d < 2 ^ 62 ∧ rows.length ≤ 1000 ∧ (∀ r ∈ rows, r.length ≤ 1000) ∧
  ∀ H' q, Same H H' → PicAt C H' q 1 (rows.map fun r => r.map fun n => Ie05.near n d) → Q (.ref q) H'
theorem ok_rounded {f : Addr} {fd : FuncData} (F : Fun K "rounded" "rounded" s_rounded f fd) (T : Txt K mg CPicture CDesk) (f_Picture_init : Ma P w K mg base 1 CPicture ["self", "d", "rows"] (sp_Picture CPicture)) (f_row_rounded : Fn P w K mg base 2 "row_rounded" ["row", "d"] (sp_row_rounded)) : FnOk P w K mg base CX0 3 f fd ["picture"] (sp_rounded CPicture) := by
  refine F.ok sc_rounded (fun vs H Q E h => ?_) (fun cdv A outer s H vs Q E hr h => ?_)
  · obtain ⟨a, d, rows, rfl, _⟩ := h
    rfl
  · obtain ⟨a, d, rows, rfl, ⟨dx, p, ha, qs, hp, hql, hqq⟩, hd, hd2, hl, hl2, k⟩ := h
    obtain ⟨a_Picture_init, d_Picture_init, G_Picture_init, M_Picture_init, b_Picture_init⟩ := f_Picture_init
    obtain ⟨a_row_rounded, d_row_rounded, G_row_rounded, m_row_rounded, k_row_rounded, b_row_rounded⟩ := f_row_rounded
    have nd := sc_rounded.nd
    refine ⟨_, (pss_one (ps_ret (pe_make M_Picture_init G_Picture_init (hr.mono (by decide)) rfl T.gPicture b_Picture_init .nil pass0 (pa_cons pe_int (pa_cons (pe_lc (own := [("row", 1)]) (g := (gName 1)) (tt := tYes) (te := (tCall (sp_row_rounded) [] E0 (tCons (tVar 1) (tCons (tFld K (tVar 0) "d") tNil)))) rfl nd (pi_list (pe_fld (pv 0) rfl)) (blkOk_by (own := [("row", 1)]) (N := ["picture", "row"]) (sc := defScope s_rounded) (by decide +kernel)) (fun _ _ _ _ _ => (pg_name (i := 1) nd rfl (Or.inl rfl))) (fun _ _ _ _ _ => pts_nil) (fun _ _ _ _ _ => (pe_call G_row_rounded (hr.mono (by decide)) rfl m_row_rounded k_row_rounded b_row_rounded .nil pass0 (pa_cons (pv 1) (pa_cons (pe_fld (pv 0) rfl) pa_nil))))) pa_nil))))), ?_⟩
    refine ⟨_, rfl, a, CPicture, dx, _, _, rfl, ha, T.clPicture, T.nR, pf_rows _ _, p, rfl, ⟨_, SqL.of hp⟩, fun D hD => ?_⟩
    refine lc_row (walk_list (K := K) (a := p) (xs := qs.map V.ref)) (fun i => (rows.getD i []).map fun n => Ie05.near n d) hD (by rw [List.length_map, hql]; exact sz1000 hl) (fun H2 s => SqL.of (s _ _ hp)) (fun i H x H' y => by rw [y.1]; exact Same.refl _) ?_ (gName_mono 1) ?_
    · rintro i x H2 H3 Q' hi s ⟨rfl, hx⟩ hQ
      obtain ⟨q, hqi, rfl⟩ := refs_of hx
      have hi : i < rows.length := by
        have := (List.getElem?_eq_some_iff.mp hqi).1
        omega
      have hri := List.getElem?_eq_getElem hi
      have e : rows.getD i [] = rows[i] := by simp [List.getD, hri]
      rw [e] at hQ
      exact ⟨rfl, _, rfl, _, rfl, a, CPicture, dx, _, _, rfl, s _ _ ha, T.clPicture, T.nD, pf_d _ _, q, rows[i], d, rfl, s _ _ (hqq i q _ hqi hri), hd, hd2, hl2 _ (List.getElem_mem hi), hQ⟩
    · intro H2 s r2
      have e : (List.range (qs.map V.ref).length).map (fun i => (rows.getD i []).map fun n => Ie05.near n d) = rows.map fun r => r.map fun n => Ie05.near n d := by
        rw [List.length_map, hql]
        exact map_range_rows rows fun r => r.map fun n => Ie05.near n d
      rw [e] at r2
      exact made_picture (d := 1) r2 fun H3 q s3 h3 => k H3 q (s.trans s3) h3
/-! border_refusal, undo_refusal, cell_refusal -/
def borderI (w h f : Nat) : Int := if 12 < w ∨ 12 < h then -1 else mostI f 65535
def sp_border_refusal (C : Addr) : Sp := fun vs H Q _ => ∃ (a : Addr) (l t r b f d w h : Nat) (rows : Rows), vs = [.ref a, .int (l : Int), .int (t : Int), .int (r : Int), .int (b : Int), .int (f : Int)] ∧ PicAt C H a d rows ∧ Ok w h rows ∧ 0 < h ∧ Q (.int (borderI (l + w + r) (t + h + b) f)) H
theorem ok_border_refusal {f : Addr} {fd : FuncData} (F : Fun K "border_refusal" "border_refusal" s_border_refusal f fd) (T : Txt K mg CPicture CDesk) (f_most_refusal : Fn P w K mg base 1 "most_refusal" ["number", "most"] (sp_most_refusal)) (f_Picture_width : Me P w K mg base 1 CPicture "width" ["self"] (sp_width CPicture)) (f_Picture_height : Me P w K mg base 1 CPicture "height" ["self"] (sp_height CPicture)) (c_MOST_IN_A_LINE : Cst mg "MOST_IN_A_LINE" (12)) (c_NOT_THERE : Cst mg "NOT_THERE" (-1)) (c_MOST_IN_A_CELL : Cst mg "MOST_IN_A_CELL" (65535)) : FnOk P w K mg base CX0 2 f fd ["picture", "left", "above", "right", "below", "f"] (sp_border_refusal CPicture) := by
  refine F.ok sc_border_refusal (fun vs H Q E h => ?_) (fun cdv A outer s H vs Q E hr h => ?_)
  · obtain ⟨_, _, _, _, _, _, _, _, _, _, rfl, _⟩ := h
    rfl
  · obtain ⟨a, l, t, r, b, f, d, w, h, rows, rfl, hP, ok, hh, k⟩ := h
    obtain ⟨a_most_refusal, d_most_refusal, G_most_refusal, m_most_refusal, k_most_refusal, b_most_refusal⟩ := f_most_refusal
    obtain ⟨a_Picture_width, d_Picture_width, G_Picture_width, m_Picture_width, b_Picture_width⟩ := f_Picture_width
    obtain ⟨a_Picture_height, d_Picture_height, G_Picture_height, m_Picture_height, b_Picture_height⟩ := f_Picture_height
    obtain ⟨t_MOST_IN_A_LINE, c_MOST_IN_A_LINE⟩ := c_MOST_IN_A_LINE
    obtain ⟨t_NOT_THERE, c_NOT_THERE⟩ := c_NOT_THERE
    obtain ⟨t_MOST_IN_A_CELL, c_MOST_IN_A_CELL⟩ := c_MOST_IN_A_CELL
    have nd := sc_border_refusal.nd
    refine ⟨_, (pss_cons (ps_if (PW.pt (pw_or (pt_cmpR op_gt (pe_op op_add (pe_op op_add (pv 1) (pe_meth0 (pv 0) T.clPicture m_Picture_width G_Picture_width (hr.mono (by decide)) b_Picture_width .nil pass0)) (pv 3)) (pe_glob (v := .int (12)) rfl c_MOST_IN_A_LINE ⟨_, rfl⟩) (nomark _)) (pw_or1 (pt_cmpR op_gt (pe_op op_add (pe_op op_add (pv 2) (pe_meth0 (pv 0) T.clPicture m_Picture_height G_Picture_height (hr.mono (by decide)) b_Picture_height .nil pass0)) (pv 4)) (pe_glob (v := .int (12)) rfl c_MOST_IN_A_LINE ⟨_, rfl⟩) (nomark _))))) (pss_one (ps_ret (pe_glob (v := .int (-1)) rfl c_NOT_THERE ⟨_, rfl⟩))) pss_nil) (pss_one (ps_ret (pe_call G_most_refusal (hr.mono (by decide)) rfl m_most_refusal k_most_refusal b_most_refusal .nil pass0 (pa_cons (pv 5) (pa_cons (pe_glob (v := .int (65535)) rfl c_MOST_IN_A_CELL ⟨_, rfl⟩) pa_nil)))))), ?_⟩
    have h0 : 0 < rows.length := by rw [ok.len]; exact hh
    have hr0 := List.getElem?_eq_getElem h0
    have hlen : ((rows[0].length : Nat) : Int) = (w : Int) := by rw [ok.row _ (List.getElem_mem h0)]
    have hlen2 : ((rows.length : Nat) : Int) = (h : Int) := by rw [ok.len]
    have hP0 := hP
    obtain ⟨dx, p, ha, hR⟩ := hP
    unfold borderI at k
    refine ⟨_, rfl, _, rfl, a, dx, _, rfl, ha, pf_no _ _ (by decide +kernel) (by decide +kernel), a, d, rows, rows[0], rfl, hP0, hr0, _, _, rfl, rfl, _, rfl, _, _, rfl, rfl, _, _, rfl, rfl, _, rfl, tif (fun z => tif_t rfl ?_) (fun z => ?_)⟩
    · rw [hlen] at z
      simp at z
      rw [if_pos (.inl (by omega))] at k
      exact k
    rw [hlen] at z
    refine ⟨_, rfl, _, rfl, a, dx, _, rfl, ha, pf_no _ _ (by decide +kernel) (by decide +kernel), a, d, rows, rfl, hP0, _, _, rfl, rfl, _, rfl, _, _, rfl, rfl, _, _, rfl, rfl, _, rfl, tif (fun z2 => ?_) (fun z2 => ?_)⟩
    · rw [hlen2] at z2
      simp at z2
      rw [if_pos (.inr (by omega))] at k
      exact k
    · rw [hlen2] at z2
      simp at z z2
      rw [if_neg (by omega)] at k
      exact ⟨_, rfl, f, 65535, rfl, k⟩
def sp_undo_refusal : Sp := fun vs H Q _ => ∃ (l : Addr) (xs : List V), vs = [.ref l] ∧ H l = some (.lst xs) ∧ Q (.int (if xs.length = 0 then -4 else 0)) H
theorem ok_undo_refusal {f : Addr} {fd : FuncData} (F : Fun K "undo_refusal" "undo_refusal" s_undo_refusal f fd) (T : Txt K mg CPicture CDesk) (c_NOTHING_TO_UNDO : Cst mg "NOTHING_TO_UNDO" (-4)) (c_GRANTED : Cst mg "GRANTED" (0)) : FnOk P w K mg base CX0 1 f fd ["earlier"] (sp_undo_refusal) := by
  refine F.ok sc_undo_refusal (fun vs H Q E h => ?_) (fun cdv A outer s H vs Q E hr h => ?_)
  · obtain ⟨l, xs, rfl, hl, k⟩ := h
    rfl
  · obtain ⟨l, xs, rfl, hl, k⟩ := h
    obtain ⟨t_NOTHING_TO_UNDO, c_NOTHING_TO_UNDO⟩ := c_NOTHING_TO_UNDO
    obtain ⟨t_GRANTED, c_GRANTED⟩ := c_GRANTED
    have nd := sc_undo_refusal.nd
    refine ⟨_, (pss_cons (ps_if (pt_cmpR op_eq (pe_callB call_len_seq (by rfl) T.len PySem.boot_len (pa_cons (pv 0) pa_nil)) pe_int (nomark _)) (pss_one (ps_ret (pe_glob (v := .int (-4)) rfl c_NOTHING_TO_UNDO ⟨_, rfl⟩))) pss_nil) (pss_one (ps_ret (pe_glob (v := .int (0)) rfl c_GRANTED ⟨_, rfl⟩)))), ?_⟩
    refine ⟨_, rfl, l, _, rfl, .inl (SqL.of hl), rfl, _, rfl, tif (fun z => ?_) (fun z => ?_)⟩
    · have z := int_eq z
      rw [if_pos (by omega)] at k
      exact k
    · have z := int_ne z
      rw [if_neg (by omega)] at k
      exact k
def cellI (w h x y : Nat) : Int := if w ≤ x ∨ h ≤ y then -1 else 0
def sp_cell_refusal (C : Addr) : Sp := fun vs H Q _ => ∃ (a : Addr) (x y d w h : Nat) (rows : Rows), vs = [.ref a, .int (x : Int), .int (y : Int)] ∧ PicAt C H a d rows ∧ Ok w h rows ∧ 0 < h ∧ Q (.int (cellI w h x y)) H
theorem ok_cell_refusal {f : Addr} {fd : FuncData} (F : Fun K "cell_refusal" "cell_refusal" s_cell_refusal f fd) (T : Txt K mg CPicture CDesk) (f_Picture_width : Me P w K mg base 1 CPicture "width" ["self"] (sp_width CPicture)) (f_Picture_height : Me P w K mg base 1 CPicture "height" ["self"] (sp_height CPicture)) (c_NOT_THERE : Cst mg "NOT_THERE" (-1)) (c_GRANTED : Cst mg "GRANTED" (0)) : FnOk P w K mg base CX0 2 f fd ["picture", "x", "y"] (sp_cell_refusal CPicture) := by
  refine F.ok sc_cell_refusal (fun vs H Q E h => ?_) (fun cdv A outer s H vs Q E hr h => ?_)
  · obtain ⟨_, _, _, _, _, _, _, rfl, _⟩ := h
    rfl
  · obtain ⟨a, x, y, d, w, h, rows, rfl, hP, ok, hh, k⟩ := h
    obtain ⟨a_Picture_width, d_Picture_width, G_Picture_width, m_Picture_width, b_Picture_width⟩ := f_Picture_width
    obtain ⟨a_Picture_height, d_Picture_height, G_Picture_height, m_Picture_height, b_Picture_height⟩ := f_Picture_height
    obtain ⟨t_NOT_THERE, c_NOT_THERE⟩ := c_NOT_THERE
    obtain ⟨t_GRANTED, c_GRANTED⟩ := c_GRANTED
    have nd := sc_cell_refusal.nd
    refine ⟨_, (pss_cons (ps_if (PW.pt (pw_or (pt_cmpR op_ge (pv 1) (pe_meth0 (pv 0) T.clPicture m_Picture_width G_Picture_width (hr.mono (by decide)) b_Picture_width .nil pass0) (nomark _)) (pw_or1 (pt_cmpR op_ge (pv 2) (pe_meth0 (pv 0) T.clPicture m_Picture_height G_Picture_height (hr.mono (by decide)) b_Picture_height .nil pass0) (nomark _))))) (pss_one (ps_ret (pe_glob (v := .int (-1)) rfl c_NOT_THERE ⟨_, rfl⟩))) pss_nil) (pss_one (ps_ret (pe_glob (v := .int (0)) rfl c_GRANTED ⟨_, rfl⟩)))), ?_⟩
    have h0 : 0 < rows.length := by rw [ok.len]; exact hh
    have hr0 := List.getElem?_eq_getElem h0
    have hlen : ((rows[0].length : Nat) : Int) = (w : Int) := by rw [ok.row _ (List.getElem_mem h0)]
    have hlen2 : ((rows.length : Nat) : Int) = (h : Int) := by rw [ok.len]
    have hP0 := hP
    obtain ⟨dx, p, ha, hR⟩ := hP
    unfold cellI at k
    refine ⟨_, rfl, _, rfl, a, dx, _, rfl, ha, pf_no _ _ (by decide +kernel) (by decide +kernel), a, d, rows, rows[0], rfl, hP0, hr0, _, _, rfl, rfl, _, rfl, tif (fun z => tif_t rfl ?_) (fun z => ?_)⟩
    · rw [hlen] at z
      simp at z
      rw [if_pos (.inl (by omega))] at k
      exact k
    rw [hlen] at z
    refine ⟨_, rfl, _, rfl, a, dx, _, rfl, ha, pf_no _ _ (by decide +kernel) (by decide +kernel), a, d, rows, rfl, hP0, _, _, rfl, rfl, _, rfl, tif (fun z2 => ?_) (fun z2 => ?_)⟩
    · rw [hlen2] at z2
      simp at z2
      rw [if_pos (.inr (by omega))] at k
      exact k
    · rw [hlen2] at z2
      simp at z z2
      rw [if_neg (by omega)] at k
      exact k
end
end Pa

set_option Elab.async false
set_option maxRecDepth 100000
set_option maxHeartbeats 4000000
set_option linter.all false
namespace Pa
open PySem PySem.Spec PyProof.Rows L2
section
variable {P : Program} {w : World} {K : PySem.W.Frag} {mg : Str → Option Value} {base : Heap} {CPicture CDesk : Addr}
/-! ### the desk -/
/-- the heap without what lies at p -/
def off (H : Hp) (p : Addr) : Hp := fun x => if x = p then none else H x
theorem off_self (H : Hp) (p : Addr) : off H p p = none := if_pos rfl
theorem off_ne {H : Hp} {p x : Addr} (h : x ≠ p) : off H p x = H x := if_neg h
theorem off_none {H : Hp} {p x : Addr} (h : H x = none) : off H p x = none := by
  unfold off
  split
  · rfl
  · exact h
theorem off_same (H : Hp) (p : Addr) : Same (off H p) H := fun b o e => by
  unfold off at e
  split at e
  · cases e
  · exact e
theorem same_into {F H : Hp} {p : Addr} (s : Same F H) (h : F p = none) : Same F (off H p) := fun b o e => by
  rw [off_ne (ne_of_none e h)]
  exact s _ _ e
/-- what a picture is made of does not lie at p -/
theorem RowsAt.move {H F : Hp} {p : Addr} {rows : Rows} (h : RowsAt H p rows) (m : ∀ b xs, H b = some (.lst xs) → F b = some (.lst xs)) : RowsAt F p rows := by
  obtain ⟨qs, h1, h2, h3⟩ := h
  exact ⟨qs, m _ _ h1, h2, fun i q r a b => m _ _ (h3 i q r a b)⟩
theorem PicAt.move {C : Addr} {H F : Hp} {a : Addr} {d : Nat} {rows : Rows} (h : PicAt C H a d rows) (m : ∀ b xs, H b = some (.lst xs) → F b = some (.lst xs)) (m2 : ∀ b C dx n p, H b = some (.ins C dx (pf n p)) → F b = some (.ins C dx (pf n p))) : PicAt C F a d rows := by
  obtain ⟨dx, p, h1, h2⟩ := h
  exact ⟨dx, p, m2 _ _ _ _ _ h1, h2.move m⟩
def df (p l : Addr) : List (Str × V) := [("picture", .ref p), ("earlier", .ref l)]
theorem df_picture (p l : Addr) : (df p l).lookup ("picture" : Str) = some (.ref p) := lk_here
theorem df_earlier (p l : Addr) : (df p l).lookup ("earlier" : Str) = some (.ref l) := (lk_past (by decide +kernel)).trans lk_here
theorem df_no (p l : Addr) {m : Str} (h1 : (m == ("picture" : Str)) = false) (h2 : (m == ("earlier" : Str)) = false) : (df p l).lookup m = none := (lk_past h1).trans ((lk_past h2).trans rfl)
theorem df_new (p l : Addr) : putF "earlier" (.ref l) (putF "picture" (.ref p) []) = df p l := (put_past (by decide +kernel)).trans rfl
theorem df_putP (p l q : Addr) : putF "picture" (.ref q) (df p l) = df q l := put_here
theorem df_putE (p l q : Addr) : putF "earlier" (.ref q) (df p l) = df p q := (put_past (by decide +kernel)).trans (congrArg (List.cons _) put_here)
theorem pf_df {n : Nat} {p q l : Addr} : pf n p ≠ df q l := fun e => by
  unfold pf df at e
  injection e with e _
  injection e with _ e
  cases e
def OldsAt (C : Addr) (F : Hp) (qs : List Addr) (pys : List Im) : Prop := qs.length = pys.length ∧ ∀ (k : Nat) (q : Addr) (o : Im), qs[k]? = some q → pys[k]? = some o → PicAt C F q o.d o.rows
/-- the desk at a: its picture, and the earlier ones, the oldest first; F is what stays as it is when the desk changes -/
def DeskAt (C CD : Addr) (F H : Hp) (a : Addr) (i : Im) (pys : List Im) : Prop :=
  ∃ (dx p l : Addr) (qs : List Addr), H a = some (.ins CD dx (df p l)) ∧ H l = some (.lst (qs.map V.ref)) ∧ F a = none ∧ F l = none ∧ Same F H ∧ PicAt C F p i.d i.rows ∧ OldsAt C F qs pys
theorem DeskAt.same {C CD : Addr} {F H H' : Hp} {a : Addr} {i : Im} {pys : List Im} (h : DeskAt C CD F H a i pys) (s : Same H H') : DeskAt C CD F H' a i pys := by
  obtain ⟨dx, p, l, qs, h1, h2, h3, h4, h5, h6⟩ := h
  exact ⟨dx, p, l, qs, s _ _ h1, s _ _ h2, h3, h4, h5.trans s, h6⟩
theorem OldsAt.same {C : Addr} {F F' : Hp} {qs : List Addr} {pys : List Im} (s : Same F F') (h : OldsAt C F qs pys) : OldsAt C F' qs pys := ⟨h.1, fun k q o a b => (h.2 k q o a b).same s⟩
def im0 : Im := Im.draw 1 1 [[0]]
def sp_Desk (C CD : Addr) : Sp := fun vs H Q _ => ∃ (x dx : Addr) (G : Hp), vs = [.ref x] ∧ H x = some (.ins CD dx []) ∧ Same G H ∧ G x = none ∧
  ∀ H' F, Same G F → DeskAt C CD F H' x im0 [] → Q .non H'
theorem rows0 {H : Hp} {p q : Addr} (h1 : H q = some (.lst [V.int 0])) (h2 : H p = some (.lst [V.ref q])) : RowsAt H p [[0]] := by
  refine ⟨[q], h2, rfl, fun i b r hb hr => ?_⟩
  cases i with
  | zero =>
    have hb := Option.some.inj hb
    have hr := Option.some.inj hr
    subst hb
    subst hr
    exact h1
  | succ i => cases hb
/-- off the desk -/
theorem PicAt.off_desk {C CD : Addr} {H : Hp} {a b dx p l : Addr} {d : Nat} {rows : Rows} (ha : H a = some (.ins CD dx (df p l))) (h : PicAt C H b d rows) : PicAt C (off H a) b d rows := by
  refine h.move (fun x xs e => ?_) (fun x C2 dx2 n q e => ?_)
  · rw [off_ne (ne_of e ha (by intro z; cases z))]
    exact e
  · rw [off_ne (ne_of e ha (by
      intro z
      injection z with _ _ z
      exact pf_df z))]
    exact e
theorem PicAt.off_bare {C CD : Addr} {H : Hp} {a b dx : Addr} {d : Nat} {rows : Rows} (ha : H a = some (.ins CD dx [])) (h : PicAt C H b d rows) : PicAt C (off H a) b d rows := by
  refine h.move (fun x xs e => ?_) (fun x C2 dx2 n q e => ?_)
  · rw [off_ne (ne_of e ha (by intro z; cases z))]
    exact e
  · rw [off_ne (ne_of e ha (by
      intro z
      injection z with _ _ z
      cases z))]
    exact e
theorem ok_Desk_init {f : Addr} {fd : FuncData} (F : Fun K "__init__" "Desk.__init__" s_Desk_init f fd) (T : Txt K mg CPicture CDesk) (f_Picture_init : Ma P w K mg base 1 CPicture ["self", "d", "rows"] (sp_Picture CPicture)) : FnOk P w K mg base CX0 3 f fd ["self"] (sp_Desk CPicture CDesk) := by
  refine F.ok sc_Desk_init (fun vs H Q E h => ?_) (fun cdv A outer s H vs Q E hr h => ?_)
  · obtain ⟨x, dx, G, rfl, hx, hG, hGx, k⟩ := h
    rfl
  · obtain ⟨x, dx, G, rfl, hx, hG, hGx, k⟩ := h
    obtain ⟨a_Picture_init, d_Picture_init, G_Picture_init, M_Picture_init, b_Picture_init⟩ := f_Picture_init
    have nd := sc_Desk_init.nd
    refine ⟨_, (pss_cons (ps_fld (pv 0) (pe_make M_Picture_init G_Picture_init (hr.mono (by decide)) rfl T.gPicture b_Picture_init .nil pass0 (pa_cons pe_int (pa_cons (pe_lst (pa_cons (pe_lst (pa_cons pe_int pa_nil)) pa_nil)) pa_nil))) rfl) (pss_one (ps_fld (pv 0) (pe_lst pa_nil) rfl))), ?_⟩
    refine ⟨(by show 1 ≤ sizeLine; decide), fun q nq => ⟨(by show 1 ≤ sizeLine; decide), fun p np => ?_⟩⟩
    have s1 := same_new (o := .lst [V.int 0]) nq
    have s2 := same_newer (o := .lst [V.ref q]) s1 np
    have hR : RowsAt (upd (upd H q (.lst [V.int 0])) p (.lst [V.ref q])) p [[0]] := rows0 (same_new np _ _ upd_same) upd_same
    intro b dx2 nb ndx2 ne2
    refine ⟨b, dx2, 1, p, rfl, upd_same, fun H3 J kp => ⟨rfl, ?_⟩⟩
    have s3 := Same.made nb ndx2 kp
    have hb : PicAt CPicture H3 b 1 [[0]] := ⟨dx2, p, J, hR.same s3⟩
    have hx3 := s3 _ _ (s2 _ _ hx)
    refine ⟨_, rfl, x, CDesk, dx, [], rfl, hx3, T.clDesk, T.nP, (by show 0 < 1000; decide), ?_⟩
    refine ⟨(by show 0 ≤ sizeLine; decide), fun l nl => ⟨_, rfl, x, CDesk, dx, _, rfl, same_new nl _ _ upd_same, T.clDesk, T.nE, (by show 1 < 1000; decide), ?_⟩⟩
    have nlx : l ≠ x := Ne.symm (ne_of_none upd_same nl)
    have nl3 : H3 l = none := by
      rw [upd_ne nlx] at nl
      exact nl
    have sF : Same (off H3 x) (upd (upd (upd H3 x (.ins CDesk dx (putF "picture" (.ref b) []))) l (.lst [])) x (.ins CDesk dx (putF "earlier" (.ref l) (putF "picture" (.ref b) [])))) :=
      same_off (same_off (same_off (off_same H3 x) (off_self H3 x)) (off_none nl3)) (off_self H3 x)
    refine k _ (off H3 x) (same_into (hG.trans (s2.trans s3)) hGx) ⟨dx, b, l, [], ?_, ?_, off_self H3 x, off_none nl3, sF, PicAt.off_bare hx3 hb, rfl, fun j q o hq => by cases hq⟩
    · rw [upd_same, df_new]
    · rw [upd_ne nlx, upd_same]
      rfl
def sp_begin (C CD : Addr) : Sp := fun vs H Q _ => ∃ (a b dx p l : Addr) (F : Hp) (n : Im), vs = [.ref a, .ref b] ∧ H a = some (.ins CD dx (df p l)) ∧ F a = none ∧ Same F H ∧ PicAt C F b n.d n.rows ∧
  ∀ H', DeskAt C CD F H' a n [] → Q .non H'
theorem ok_Desk_begin {f : Addr} {fd : FuncData} (F : Fun K "begin" "Desk.begin" s_Desk_begin f fd) (T : Txt K mg CPicture CDesk)  : FnOk P w K mg base CX0 1 f fd ["self", "fresh"] (sp_begin CPicture CDesk) := by
  refine F.ok sc_Desk_begin (fun vs H Q E h => ?_) (fun cdv A outer s H vs Q E hr h => ?_)
  · obtain ⟨_, _, _, _, _, _, _, rfl, _⟩ := h
    rfl
  · obtain ⟨a, b, dx, p, l, F, n, rfl, ha, hFa, hF, hb, k⟩ := h
    have nd := sc_Desk_begin.nd
    refine ⟨_, (pss_cons (ps_fld (pv 0) (pv 1) rfl) (pss_one (ps_fld (pv 0) (pe_lst pa_nil) rfl))), ?_⟩
    refine ⟨_, rfl, _, rfl, a, CDesk, dx, _, rfl, ha, T.clDesk, T.nP, (by show 2 < 1000; decide), ?_⟩
    rw [df_putP]
    refine ⟨(by show 0 ≤ sizeLine; decide), fun l2 nl => ⟨_, rfl, a, CDesk, dx, _, rfl, same_new nl _ _ upd_same, T.clDesk, T.nE, (by show 2 < 1000; decide), ?_⟩⟩
    rw [df_putE]
    have nla : l2 ≠ a := Ne.symm (ne_of_none upd_same nl)
    have nl3 : H l2 = none := by
      rw [upd_ne nla] at nl
      exact nl
    have nF := hF.free nl3
    refine k _ ⟨dx, b, l2, [], upd_same, ?_, hFa, nF, same_off (same_off (same_off hF hFa) nF) hFa, hb, rfl, fun j q o hq => by cases hq⟩
    rw [upd_ne nla, upd_same]
    rfl
def last16 (xs : List Im) : List Im := if 16 < xs.length then xs.drop 1 else xs
def sp_change (C CD : Addr) : Sp := fun vs H Q _ => ∃ (a b : Addr) (F : Hp) (i n : Im) (pys : List Im), vs = [.ref a, .ref b] ∧ DeskAt C CD F H a i pys ∧ PicAt C F b n.d n.rows ∧ pys.length ≤ 16 ∧
  ∀ H', DeskAt C CD F H' a n (last16 (pys ++ [i])) → Q .non H'
theorem OldsAt.more {C : Addr} {F : Hp} {qs : List Addr} {pys : List Im} {p : Addr} {i : Im} (h : OldsAt C F qs pys) (hp : PicAt C F p i.d i.rows) : OldsAt C F (qs ++ [p]) (pys ++ [i]) := by
  obtain ⟨h1, h2⟩ := h
  refine ⟨by simp [h1], fun k q o hq ho => ?_⟩
  by_cases hk : k < qs.length
  · rw [List.getElem?_append_left hk] at hq
    rw [List.getElem?_append_left (by omega)] at ho
    exact h2 k q o hq ho
  · rw [List.getElem?_append_right (by omega)] at hq
    rw [List.getElem?_append_right (by omega)] at ho
    have hk0 : k - qs.length = 0 := by
      by_cases z : k - qs.length = 0
      · exact z
      · rw [List.getElem?_eq_none (by simp; omega)] at hq
        cases hq
    rw [hk0] at hq
    rw [← h1, hk0] at ho
    have hq := Option.some.inj hq
    have ho := Option.some.inj ho
    subst hq
    subst ho
    exact hp
theorem OldsAt.tail {C : Addr} {F : Hp} {qs : List Addr} {pys : List Im} (h : OldsAt C F qs pys) : OldsAt C F (qs.drop 1) (pys.drop 1) := by
  obtain ⟨h1, h2⟩ := h
  refine ⟨by simp [h1], fun k q o hq ho => ?_⟩
  rw [List.getElem?_drop] at hq ho
  exact h2 _ q o hq ho
theorem ok_Desk_change {f : Addr} {fd : FuncData} (F : Fun K "change" "Desk.change" s_Desk_change f fd) (T : Txt K mg CPicture CDesk) (c_MOST_UNDONE : Cst mg "MOST_UNDONE" (16)) : FnOk P w K mg base CX0 1 f fd ["self", "fresh"] (sp_change CPicture CDesk) := by
  refine F.ok sc_Desk_change (fun vs H Q E h => ?_) (fun cdv A outer s H vs Q E hr h => ?_)
  · obtain ⟨_, _, _, _, _, _, rfl, _⟩ := h
    rfl
  · obtain ⟨a, b, F, i, n, pys, rfl, ⟨dx, p, l, qs, ha, hl, hFa, hFl, hF, hp, ho⟩, hb, h16, k⟩ := h
    obtain ⟨t_MOST_UNDONE, c_MOST_UNDONE⟩ := c_MOST_UNDONE
    have nd := sc_Desk_change.nd
    refine ⟨_, (pss_cons (ps_expr (pe_bm PySem.F.plainAttrs_list PySem.F.slot_list_append PySem.F.type_list_append mt_append (pe_fld (pv 0) rfl) (pa_cons (pe_fld (pv 0) rfl) pa_nil))) (pss_cons (ps_if (pt_cmpR op_gt (pe_callB call_len_seq (by rfl) T.len PySem.boot_len (pa_cons (pe_fld (pv 0) rfl) pa_nil)) (pe_glob (v := .int (16)) rfl c_MOST_UNDONE ⟨_, rfl⟩) (nomark _)) (pss_one (ps_expr (pe_bm PySem.F.plainAttrs_list PySem.F.slot_list_pop PySem.F.type_list_pop mt_popAt (pe_fld (pv 0) rfl) (pa_cons pe_int pa_nil)))) pss_nil) (pss_one (ps_fld (pv 0) (pv 1) rfl)))), ?_⟩
    have nla : l ≠ a := ne_of hl ha (by intro z; cases z)
    have hlen := ho.1
    refine ⟨_, rfl, a, CDesk, dx, _, _, rfl, ha, T.clDesk, T.nE, df_earlier _ _, .inl ⟨rfl, _, SqL.of hl⟩, _, rfl, a, CDesk, dx, _, _, rfl, ha, T.clDesk, T.nP, df_picture _ _, l, _, _, rfl, rfl, hl, ?_, ?_⟩
    · rw [List.length_map, hlen]
      exact Nat.lt_of_le_of_lt h16 (by decide)
    have ha2 : upd H l (.lst (qs.map V.ref ++ [V.ref p])) a = some (.ins CDesk dx (df p l)) := by rw [upd_ne (Ne.symm nla)]; exact ha
    have hF2 : Same F (upd H l (.lst (qs.map V.ref ++ [V.ref p]))) := same_off hF hFl
    refine ⟨_, rfl, a, CDesk, dx, _, _, rfl, ha2, T.clDesk, T.nE, df_earlier _ _, l, _, rfl, .inl (SqL.of upd_same), _, _, rfl, rfl, _, rfl, tif (fun z => ?_) (fun z => ?_)⟩
    · have z : 16 < (pys ++ [i]).length := by
        simp at z
        simp
        omega
      obtain ⟨y, hy⟩ : ∃ y, (qs.map V.ref ++ [V.ref p])[0]? = some y := ⟨_, List.getElem?_eq_getElem (by simp)⟩
      refine ⟨_, rfl, a, CDesk, dx, _, _, rfl, ha2, T.clDesk, T.nE, df_earlier _ _, .inl ⟨rfl, _, SqL.of upd_same⟩, l, _, 0, 0, y, rfl, rfl, upd_same, by decide, by decide, ?_, hy, ?_⟩
      · unfold seqIndex?
        simp
      rw [upd_upd]
      have ha3 : upd H l (.lst ((qs.map V.ref ++ [V.ref p]).eraseIdx 0)) a = some (.ins CDesk dx (df p l)) := by rw [upd_ne (Ne.symm nla)]; exact ha
      refine ⟨_, rfl, _, rfl, a, CDesk, dx, _, rfl, ha3, T.clDesk, T.nP, (by show 2 < 1000; decide), ?_⟩
      rw [df_putP]
      have e : last16 (pys ++ [i]) = (pys ++ [i]).drop 1 := if_pos z
      rw [e] at k
      refine k _ ⟨dx, b, l, (qs ++ [p]).drop 1, upd_same, ?_, hFa, hFl, same_off (same_off hF hFl) hFa, hb, (ho.more hp).tail⟩
      rw [upd_ne nla, upd_same, List.eraseIdx_zero, List.map_drop, List.map_append, List.drop_one]
      rfl
    · have z : ¬ 16 < (pys ++ [i]).length := by
        simp at z
        simp
        omega
      refine ⟨_, rfl, _, rfl, a, CDesk, dx, _, rfl, ha2, T.clDesk, T.nP, (by show 2 < 1000; decide), ?_⟩
      rw [df_putP]
      have e : last16 (pys ++ [i]) = pys ++ [i] := if_neg z
      rw [e] at k
      refine k _ ⟨dx, b, l, qs ++ [p], upd_same, ?_, hFa, hFl, same_off hF2 hFa, hb, ho.more hp⟩
      rw [upd_ne nla, upd_same, List.map_append]
      rfl
def sp_undo (C CD : Addr) : Sp := fun vs H Q _ => ∃ (a : Addr) (F : Hp) (i o : Im) (pys : List Im), vs = [.ref a] ∧ DeskAt C CD F H a i (pys ++ [o]) ∧
  ∀ H', DeskAt C CD F H' a o pys → Q .non H'
theorem OldsAt.less {C : Addr} {F : Hp} {qs : List Addr} {pys : List Im} {o : Im} (h : OldsAt C F qs (pys ++ [o])) : ∃ (rs : List Addr) (p : Addr), qs = rs ++ [p] ∧ PicAt C F p o.d o.rows ∧ OldsAt C F rs pys := by
  obtain ⟨h1, h2⟩ := h
  rcases List.eq_nil_or_concat qs with e | ⟨rs, p, e⟩
  · rw [e] at h1
    simp at h1
  · rw [List.concat_eq_append] at e
    subst e
    have hl : rs.length = pys.length := by simpa using h1
    refine ⟨rs, p, rfl, h2 rs.length p o (by simp) (by rw [hl]; simp), hl, fun k q z hq hz => h2 k q z ?_ ?_⟩
    · rw [List.getElem?_append_left (List.getElem?_eq_some_iff.mp hq).1]
      exact hq
    · rw [List.getElem?_append_left (List.getElem?_eq_some_iff.mp hz).1]
      exact hz
theorem ok_Desk_undo {f : Addr} {fd : FuncData} (F : Fun K "undo" "Desk.undo" s_Desk_undo f fd) (T : Txt K mg CPicture CDesk)  : FnOk P w K mg base CX0 1 f fd ["self"] (sp_undo CPicture CDesk) := by
  refine F.ok sc_Desk_undo (fun vs H Q E h => ?_) (fun cdv A outer s H vs Q E hr h => ?_)
  · obtain ⟨_, _, _, _, _, rfl, _⟩ := h
    rfl
  · obtain ⟨a, F, i, o, pys, rfl, ⟨dx, p, l, qs, ha, hl, hFa, hFl, hF, hp, ho⟩, k⟩ := h
    have nd := sc_Desk_undo.nd
    refine ⟨_, (pss_one (ps_fld (pv 0) (pe_bm0 PySem.F.plainAttrs_list PySem.F.slot_list_pop PySem.F.type_list_pop mt_pop (pe_fld (pv 0) rfl)) rfl)), ?_⟩
    have nla : l ≠ a := ne_of hl ha (by intro z; cases z)
    obtain ⟨rs, q, rfl, hq, hr⟩ := ho.less
    refine ⟨_, rfl, a, CDesk, dx, _, _, rfl, ha, T.clDesk, T.nE, df_earlier _ _, .inl ⟨rfl, _, SqL.of hl⟩, l, _, .ref q, rfl, rfl, hl, by simp, ?_⟩
    have ha2 : upd H l (.lst ((rs ++ [q]).map V.ref).dropLast) a = some (.ins CDesk dx (df p l)) := by rw [upd_ne (Ne.symm nla)]; exact ha
    refine ⟨_, rfl, a, CDesk, dx, _, rfl, ha2, T.clDesk, T.nP, (by show 2 < 1000; decide), ?_⟩
    rw [df_putP]
    refine k _ ⟨dx, q, l, rs, upd_same, ?_, hFa, hFl, same_off (same_off hF hFl) hFa, hq, hr⟩
    rw [upd_ne nla, upd_same, List.map_append]
    simp
end
end Pa

set_option Elab.async false
set_option maxRecDepth 100000
set_option maxHeartbeats 4000000
set_option linter.all false
namespace Pa
open PySem PySem.Spec PyProof.Rows L2
section
variable {P : Program} {w : World} {K : PySem.W.Frag} {mg : Str → Option Value} {base : Heap} {CPicture CDesk : Addr}
/-! ### the calls by their numbers -/
theorem deq {i j : Int} (h : i = j) : decide (V.int i = V.int j) = true := by simp [h]
theorem dne {i j : Int} (h : i ≠ j) : decide (V.int i = V.int j) = false := by simp [h]
theorem enc0 {cl : Ie05.Call} {args : List Nat} (h : enc cl = 0 :: args) : ∃ w k l, cl = .picture w k l ∧ args = w :: k :: l.length :: l := by
  cases cl <;> simp [enc] at h
  exact ⟨_, _, _, rfl, h.symm⟩
theorem enc1 {cl : Ie05.Call} {args : List Nat} (h : enc cl = 1 :: args) : ∃ w k, cl = .area w k ∧ args = [w, k] := by
  cases cl <;> simp [enc] at h
  exact ⟨_, _, rfl, h.symm⟩
theorem enc2 {cl : Ie05.Call} {args : List Nat} (h : enc cl = 2 :: args) : ∃ w k, cl = .nearest w k ∧ args = [w, k] := by
  cases cl <;> simp [enc] at h
  exact ⟨_, _, rfl, h.symm⟩
theorem enc3 {cl : Ie05.Call} {args : List Nat} (h : enc cl = 3 :: args) : ∃ w k, cl = .between w k ∧ args = [w, k] := by
  cases cl <;> simp [enc] at h
  exact ⟨_, _, rfl, h.symm⟩
theorem enc4 {cl : Ie05.Call} {args : List Nat} (h : enc cl = 4 :: args) : ∃ k, cl = .turn k ∧ args = [k] := by
  cases cl <;> simp [enc] at h
  exact ⟨_, rfl, h.symm⟩
theorem enc5 {cl : Ie05.Call} {args : List Nat} (h : enc cl = 5 :: args) : ∃ k, cl = .mirror k ∧ args = [k] := by
  cases cl <;> simp [enc] at h
  exact ⟨_, rfl, h.symm⟩
theorem enc6 {cl : Ie05.Call} {args : List Nat} (h : enc cl = 6 :: args) : ∃ x y u v, cl = .cut x y u v ∧ args = [x, y, u, v] := by
  cases cl <;> simp [enc] at h
  exact ⟨_, _, _, _, rfl, h.symm⟩
theorem enc7 {cl : Ie05.Call} {args : List Nat} (h : enc cl = 7 :: args) : ∃ l t r b f, cl = .border l t r b f ∧ args = [l, t, r, b, f] := by
  cases cl <;> simp [enc] at h
  exact ⟨_, _, _, _, _, rfl, h.symm⟩
theorem enc8 {cl : Ie05.Call} {args : List Nat} (h : enc cl = 8 :: args) : ∃ k, cl = .lean k ∧ args = [k] := by
  cases cl <;> simp [enc] at h
  exact ⟨_, rfl, h.symm⟩
theorem enc9 {cl : Ie05.Call} {args : List Nat} (h : enc cl = 9 :: args) : cl = .round ∧ args = [] := by
  cases cl <;> simp [enc] at h
  exact ⟨rfl, h⟩
theorem enc10 {cl : Ie05.Call} {args : List Nat} (h : enc cl = 10 :: args) : cl = .undo ∧ args = [] := by
  cases cl <;> simp [enc] at h
  exact ⟨rfl, h⟩
theorem enc11 {cl : Ie05.Call} {args : List Nat} (h : enc cl = 11 :: args) : cl = .now ∧ args = [] := by
  cases cl <;> simp [enc] at h
  exact ⟨rfl, h⟩
theorem enc12 {cl : Ie05.Call} {args : List Nat} (h : enc cl = 12 :: args) : ∃ x y, cl = .cell x y ∧ args = [x, y] := by
  cases cl <;> simp [enc] at h
  exact ⟨_, _, rfl, h.symm⟩
theorem enc13 {cl : Ie05.Call} {args : List Nat} (h : enc cl = 13 :: args) : cl = .told ∧ args = [] := by
  cases cl <;> simp [enc] at h
  exact ⟨rfl, h⟩
/-- what refuses a call: 0 is nothing -/
def refI (i : Im) (pys : List Im) : Ie05.Call → Int
  | .picture w h l => pictureI w h l
  | .area w h => sizeI w h
  | .nearest w h => sizeI w h
  | .between w h => sizeI w h
  | .turn k => mostI k 3
  | .mirror k => mostI k 1
  | .cut x y u v => cutI i.w i.h x y u v
  | .border l t r b f => borderI (l + i.w + r) (t + i.h + b) f
  | .lean k => mostI k 11
  | .undo => if pys.length = 0 then -4 else 0
  | .cell x y => cellI i.w i.h x y
  | _ => 0
theorem in123 (c : Nat) : inV (V.int (c : Int)) [V.int 1, V.int 2, V.int 3] = true ↔ (c = 1 ∨ c = 2 ∨ c = 3) := by
  simp [inV, eqV]
  omega
def sp_refusal (C CD : Addr) : Sp := fun vs H Q _ => ∃ (a n : Addr) (c : Nat) (args : List Nat) (F : Hp) (i : Im) (pys : List Im) (cl : Ie05.Call), vs = [.ref a, .int (c : Int), .ref n] ∧ H n = some (.lst (iv args)) ∧ enc cl = c :: args ∧ (∀ x ∈ args, x < 2 ^ 32) ∧
  DeskAt C CD F H a i pys ∧ Good i ∧ ∀ H', Same H H' → Q (.int (refI i pys cl)) H'
theorem ok_refusal {f : Addr} {fd : FuncData} (F : Fun K "refusal" "refusal" s_refusal f fd) (T : Txt K mg CPicture CDesk) (f_picture_refusal : Fn P w K mg base 2 "picture_refusal" ["w", "h", "cells"] (sp_picture_refusal)) (f_size_refusal : Fn P w K mg base 1 "size_refusal" ["w", "h"] (sp_size_refusal)) (f_most_refusal : Fn P w K mg base 1 "most_refusal" ["number", "most"] (sp_most_refusal)) (f_cut_refusal : Fn P w K mg base 2 "cut_refusal" ["picture", "x", "y", "u", "v"] (sp_cut_refusal CPicture)) (f_border_refusal : Fn P w K mg base 2 "border_refusal" ["picture", "left", "above", "right", "below", "f"] (sp_border_refusal CPicture)) (f_undo_refusal : Fn P w K mg base 1 "undo_refusal" ["earlier"] (sp_undo_refusal)) (f_cell_refusal : Fn P w K mg base 2 "cell_refusal" ["picture", "x", "y"] (sp_cell_refusal CPicture)) (c_PICTURE : Cst mg "PICTURE" (0)) (c_BETWEEN : Cst mg "BETWEEN" (3)) (c_NEAREST : Cst mg "NEAREST" (2)) (c_AREA : Cst mg "AREA" (1)) (c_TURN : Cst mg "TURN" (4)) (c_MOST_TURNS : Cst mg "MOST_TURNS" (3)) (c_MIRROR : Cst mg "MIRROR" (5)) (c_MOST_MIRRORS : Cst mg "MOST_MIRRORS" (1)) (c_CUT : Cst mg "CUT" (6)) (c_BORDER : Cst mg "BORDER" (7)) (c_LEAN : Cst mg "LEAN" (8)) (c_MOST_LEANS : Cst mg "MOST_LEANS" (11)) (c_UNDO : Cst mg "UNDO" (10)) (c_CELL : Cst mg "CELL" (12)) (c_GRANTED : Cst mg "GRANTED" (0)) : FnOk P w K mg base CX0 3 f fd ["desk", "call", "numbers"] (sp_refusal CPicture CDesk) := by
  refine F.ok sc_refusal (fun vs H Q E h => ?_) (fun cdv A outer s H vs Q E hr h => ?_)
  · obtain ⟨_, _, _, _, _, _, _, _, rfl, _⟩ := h
    rfl
  · obtain ⟨a, n, c, args, F, i, pys, cl, rfl, hn, he, hb, hD, g, k⟩ := h
    obtain ⟨a_picture_refusal, d_picture_refusal, G_picture_refusal, m_picture_refusal, k_picture_refusal, b_picture_refusal⟩ := f_picture_refusal
    obtain ⟨a_size_refusal, d_size_refusal, G_size_refusal, m_size_refusal, k_size_refusal, b_size_refusal⟩ := f_size_refusal
    obtain ⟨a_most_refusal, d_most_refusal, G_most_refusal, m_most_refusal, k_most_refusal, b_most_refusal⟩ := f_most_refusal
    obtain ⟨a_cut_refusal, d_cut_refusal, G_cut_refusal, m_cut_refusal, k_cut_refusal, b_cut_refusal⟩ := f_cut_refusal
    obtain ⟨a_border_refusal, d_border_refusal, G_border_refusal, m_border_refusal, k_border_refusal, b_border_refusal⟩ := f_border_refusal
    obtain ⟨a_undo_refusal, d_undo_refusal, G_undo_refusal, m_undo_refusal, k_undo_refusal, b_undo_refusal⟩ := f_undo_refusal
    obtain ⟨a_cell_refusal, d_cell_refusal, G_cell_refusal, m_cell_refusal, k_cell_refusal, b_cell_refusal⟩ := f_cell_refusal
    obtain ⟨t_PICTURE, c_PICTURE⟩ := c_PICTURE
    obtain ⟨t_BETWEEN, c_BETWEEN⟩ := c_BETWEEN
    obtain ⟨t_NEAREST, c_NEAREST⟩ := c_NEAREST
    obtain ⟨t_AREA, c_AREA⟩ := c_AREA
    obtain ⟨t_TURN, c_TURN⟩ := c_TURN
    obtain ⟨t_MOST_TURNS, c_MOST_TURNS⟩ := c_MOST_TURNS
    obtain ⟨t_MIRROR, c_MIRROR⟩ := c_MIRROR
    obtain ⟨t_MOST_MIRRORS, c_MOST_MIRRORS⟩ := c_MOST_MIRRORS
    obtain ⟨t_CUT, c_CUT⟩ := c_CUT
    obtain ⟨t_BORDER, c_BORDER⟩ := c_BORDER
    obtain ⟨t_LEAN, c_LEAN⟩ := c_LEAN
    obtain ⟨t_MOST_LEANS, c_MOST_LEANS⟩ := c_MOST_LEANS
    obtain ⟨t_UNDO, c_UNDO⟩ := c_UNDO
    obtain ⟨t_CELL, c_CELL⟩ := c_CELL
    obtain ⟨t_GRANTED, c_GRANTED⟩ := c_GRANTED
    have nd := sc_refusal.nd
    refine ⟨_, (pss_cons (ps_set (i := 3) nd rfl (Or.inl rfl) (pe_fld (pv 0) rfl)) (pss_cons (ps_if (pt_cmpR op_eq (pv 1) (pe_glob (v := .int (0)) rfl c_PICTURE ⟨_, rfl⟩) (nomark _)) (pss_one (ps_ret (pe_call G_picture_refusal (hr.mono (by decide)) rfl m_picture_refusal k_picture_refusal b_picture_refusal .nil pass0 (pa_cons (pe_ix ix_list (pv 2) pe_int (fun _ _ => rfl)) (pa_cons (pe_ix ix_list (pv 2) pe_int (fun _ _ => rfl)) (pa_cons (pe_slice sl_list (pv 2) (po_some pe_int) po_none) pa_nil)))))) pss_nil) (pss_cons (ps_if (pt_cmpR op_in_seq (pv 1) (pe_tup (pa_cons (pe_glob (v := .int (1)) rfl c_AREA ⟨_, rfl⟩) (pa_cons (pe_glob (v := .int (2)) rfl c_NEAREST ⟨_, rfl⟩) (pa_cons (pe_glob (v := .int (3)) rfl c_BETWEEN ⟨_, rfl⟩) pa_nil)))) (by rfl)) (pss_one (ps_ret (pe_call G_size_refusal (hr.mono (by decide)) rfl m_size_refusal k_size_refusal b_size_refusal .nil pass0 (pa_cons (pe_ix ix_list (pv 2) pe_int (fun _ _ => rfl)) (pa_cons (pe_ix ix_list (pv 2) pe_int (fun _ _ => rfl)) pa_nil))))) pss_nil) (pss_cons (ps_if (pt_cmpR op_eq (pv 1) (pe_glob (v := .int (4)) rfl c_TURN ⟨_, rfl⟩) (nomark _)) (pss_one (ps_ret (pe_call G_most_refusal (hr.mono (by decide)) rfl m_most_refusal k_most_refusal b_most_refusal .nil pass0 (pa_cons (pe_ix ix_list (pv 2) pe_int (fun _ _ => rfl)) (pa_cons (pe_glob (v := .int (3)) rfl c_MOST_TURNS ⟨_, rfl⟩) pa_nil))))) pss_nil) (pss_cons (ps_if (pt_cmpR op_eq (pv 1) (pe_glob (v := .int (5)) rfl c_MIRROR ⟨_, rfl⟩) (nomark _)) (pss_one (ps_ret (pe_call G_most_refusal (hr.mono (by decide)) rfl m_most_refusal k_most_refusal b_most_refusal .nil pass0 (pa_cons (pe_ix ix_list (pv 2) pe_int (fun _ _ => rfl)) (pa_cons (pe_glob (v := .int (1)) rfl c_MOST_MIRRORS ⟨_, rfl⟩) pa_nil))))) pss_nil) (pss_cons (ps_if (pt_cmpR op_eq (pv 1) (pe_glob (v := .int (6)) rfl c_CUT ⟨_, rfl⟩) (nomark _)) (pss_one (ps_ret (pe_call G_cut_refusal (hr.mono (by decide)) rfl m_cut_refusal k_cut_refusal b_cut_refusal .nil pass0 (pa_cons (pv 3) (pa_cons (pe_ix ix_list (pv 2) pe_int (fun _ _ => rfl)) (pa_cons (pe_ix ix_list (pv 2) pe_int (fun _ _ => rfl)) (pa_cons (pe_ix ix_list (pv 2) pe_int (fun _ _ => rfl)) (pa_cons (pe_ix ix_list (pv 2) pe_int (fun _ _ => rfl)) pa_nil)))))))) pss_nil) (pss_cons (ps_if (pt_cmpR op_eq (pv 1) (pe_glob (v := .int (7)) rfl c_BORDER ⟨_, rfl⟩) (nomark _)) (pss_one (ps_ret (pe_call G_border_refusal (hr.mono (by decide)) rfl m_border_refusal k_border_refusal b_border_refusal .nil pass0 (pa_cons (pv 3) (pa_cons (pe_ix ix_list (pv 2) pe_int (fun _ _ => rfl)) (pa_cons (pe_ix ix_list (pv 2) pe_int (fun _ _ => rfl)) (pa_cons (pe_ix ix_list (pv 2) pe_int (fun _ _ => rfl)) (pa_cons (pe_ix ix_list (pv 2) pe_int (fun _ _ => rfl)) (pa_cons (pe_ix ix_list (pv 2) pe_int (fun _ _ => rfl)) pa_nil))))))))) pss_nil) (pss_cons (ps_if (pt_cmpR op_eq (pv 1) (pe_glob (v := .int (8)) rfl c_LEAN ⟨_, rfl⟩) (nomark _)) (pss_one (ps_ret (pe_call G_most_refusal (hr.mono (by decide)) rfl m_most_refusal k_most_refusal b_most_refusal .nil pass0 (pa_cons (pe_ix ix_list (pv 2) pe_int (fun _ _ => rfl)) (pa_cons (pe_glob (v := .int (11)) rfl c_MOST_LEANS ⟨_, rfl⟩) pa_nil))))) pss_nil) (pss_cons (ps_if (pt_cmpR op_eq (pv 1) (pe_glob (v := .int (10)) rfl c_UNDO ⟨_, rfl⟩) (nomark _)) (pss_one (ps_ret (pe_call G_undo_refusal (hr.mono (by decide)) rfl m_undo_refusal k_undo_refusal b_undo_refusal .nil pass0 (pa_cons (pe_fld (pv 0) rfl) pa_nil)))) pss_nil) (pss_cons (ps_if (pt_cmpR op_eq (pv 1) (pe_glob (v := .int (12)) rfl c_CELL ⟨_, rfl⟩) (nomark _)) (pss_one (ps_ret (pe_call G_cell_refusal (hr.mono (by decide)) rfl m_cell_refusal k_cell_refusal b_cell_refusal .nil pass0 (pa_cons (pv 3) (pa_cons (pe_ix ix_list (pv 2) pe_int (fun _ _ => rfl)) (pa_cons (pe_ix ix_list (pv 2) pe_int (fun _ _ => rfl)) pa_nil)))))) pss_nil) (pss_one (ps_ret (pe_glob (v := .int (0)) rfl c_GRANTED ⟨_, rfl⟩))))))))))))), ?_⟩
    obtain ⟨dx, p, l, qs, ha, hl, hFa, hFl, hF, hp, ho⟩ := hD
    have hP := hp.same hF
    refine ⟨_, rfl, a, CDesk, dx, _, _, rfl, ha, T.clDesk, T.nP, df_picture _ _, ?_⟩
    refine ⟨_, rfl, rfl, _, rfl, tif (fun z => ?_) (fun z => ?_)⟩
    · have z := int_eq z
      have z : c = 0 := by omega
      subst z
      obtain ⟨w, h, cells, rfl, rfl⟩ := enc0 he
      refine ⟨_, rfl, n, _, _, _, rfl, rfl, SqL.of hn, at_of (j := 0) rfl rfl, _, rfl, n, _, _, _, rfl, rfl, SqL.of hn, at_of (j := 1) rfl rfl, _, rfl, _, rfl, n, _, rfl, SqL.of hn, fun q nq => ?_⟩
      have e : cutV (iv (w :: h :: cells.length :: cells)) (some 3) none = iv cells := cut_from _ 3
      rw [e]
      exact ⟨w, h, q, cells, rfl, upd_same, hb w (by simp), hb h (by simp), k _ (same_new nq)⟩
    have z := int_ne z
    refine ⟨_, rfl, (by show 3 ≤ sizeLine; decide), fun t nt => ⟨t, _, rfl, .inr (SqT.of upd_same), rfl, rfl, _, rfl, ?_⟩⟩
    have s1 := same_new (o := .tup [V.int 1, V.int 2, V.int 3]) nt
    have hn := s1 _ _ hn
    have ha := s1 _ _ ha
    have hl := s1 _ _ hl
    have hP := hP.same s1
    have k := fun H' s => k H' (s1.trans s)
    generalize upd H t (.tup [V.int 1, V.int 2, V.int 3]) = H1 at hn ha hl hP k ⊢
    refine tif (fun z1 => ?_) (fun z1 => ?_)
    · have z1 := (in123 c).mp z1
      have key : ∃ w h, args = [w, h] ∧ refI i pys cl = sizeI w h := by
        rcases z1 with rfl | rfl | rfl
        · obtain ⟨w, h, rfl, rfl⟩ := enc1 he
          exact ⟨w, h, rfl, rfl⟩
        · obtain ⟨w, h, rfl, rfl⟩ := enc2 he
          exact ⟨w, h, rfl, rfl⟩
        · obtain ⟨w, h, rfl, rfl⟩ := enc3 he
          exact ⟨w, h, rfl, rfl⟩
      obtain ⟨w, h, rfl, e⟩ := key
      rw [e] at k
      exact ⟨_, rfl, n, _, _, _, rfl, rfl, SqL.of hn, at_of (j := 0) rfl rfl, _, rfl, n, _, _, _, rfl, rfl, SqL.of hn, at_of (j := 1) rfl rfl, w, h, rfl, k _ (Same.refl _)⟩
    have z1 : inV (V.int (c : Int)) [V.int 1, V.int 2, V.int 3] = false := z1
    have z1 : ¬ (c = 1 ∨ c = 2 ∨ c = 3) := fun h => by
      rw [(in123 c).mpr h] at z1
      cases z1
    refine ⟨_, rfl, rfl, _, rfl, tif (fun z4 => ?_) (fun z4 => ?_)⟩
    · have z4 := int_eq z4
      have z4 : c = 4 := by omega
      subst z4
      obtain ⟨w, rfl, rfl⟩ := enc4 he
      exact ⟨_, rfl, n, _, _, _, rfl, rfl, SqL.of hn, at_of (j := 0) rfl rfl, w, 3, rfl, k _ (Same.refl _)⟩
    have z4 := int_ne z4
    refine ⟨_, rfl, rfl, _, rfl, tif (fun z5 => ?_) (fun z5 => ?_)⟩
    · have z5 := int_eq z5
      have z5 : c = 5 := by omega
      subst z5
      obtain ⟨w, rfl, rfl⟩ := enc5 he
      exact ⟨_, rfl, n, _, _, _, rfl, rfl, SqL.of hn, at_of (j := 0) rfl rfl, w, 1, rfl, k _ (Same.refl _)⟩
    have z5 := int_ne z5
    refine ⟨_, rfl, rfl, _, rfl, tif (fun z6 => ?_) (fun z6 => ?_)⟩
    · have z6 := int_eq z6
      have z6 : c = 6 := by omega
      subst z6
      obtain ⟨x, y, u, v, rfl, rfl⟩ := enc6 he
      exact ⟨_, rfl, _, rfl, n, _, _, _, rfl, rfl, SqL.of hn, at_of (j := 0) rfl rfl, _, rfl, n, _, _, _, rfl, rfl, SqL.of hn, at_of (j := 1) rfl rfl, _, rfl, n, _, _, _, rfl, rfl, SqL.of hn, at_of (j := 2) rfl rfl, _, rfl, n, _, _, _, rfl, rfl, SqL.of hn, at_of (j := 3) rfl rfl,
        p, x, y, u, v, i.d, i.w, i.h, i.rows, rfl, hP, g.ok, g.h1, k _ (Same.refl _)⟩
    have z6 := int_ne z6
    refine ⟨_, rfl, rfl, _, rfl, tif (fun z7 => ?_) (fun z7 => ?_)⟩
    · have z7 := int_eq z7
      have z7 : c = 7 := by omega
      subst z7
      obtain ⟨x, y, u, v, f, rfl, rfl⟩ := enc7 he
      exact ⟨_, rfl, _, rfl, n, _, _, _, rfl, rfl, SqL.of hn, at_of (j := 0) rfl rfl, _, rfl, n, _, _, _, rfl, rfl, SqL.of hn, at_of (j := 1) rfl rfl, _, rfl, n, _, _, _, rfl, rfl, SqL.of hn, at_of (j := 2) rfl rfl, _, rfl, n, _, _, _, rfl, rfl, SqL.of hn, at_of (j := 3) rfl rfl,
        _, rfl, n, _, _, _, rfl, rfl, SqL.of hn, at_of (j := 4) rfl rfl, p, x, y, u, v, f, i.d, i.w, i.h, i.rows, rfl, hP, g.ok, g.h1, k _ (Same.refl _)⟩
    have z7 := int_ne z7
    refine ⟨_, rfl, rfl, _, rfl, tif (fun z8 => ?_) (fun z8 => ?_)⟩
    · have z8 := int_eq z8
      have z8 : c = 8 := by omega
      subst z8
      obtain ⟨w, rfl, rfl⟩ := enc8 he
      exact ⟨_, rfl, n, _, _, _, rfl, rfl, SqL.of hn, at_of (j := 0) rfl rfl, w, 11, rfl, k _ (Same.refl _)⟩
    have z8 := int_ne z8
    refine ⟨_, rfl, rfl, _, rfl, tif (fun z10 => ?_) (fun z10 => ?_)⟩
    · have z10 := int_eq z10
      have z10 : c = 10 := by omega
      subst z10
      obtain ⟨rfl, rfl⟩ := enc10 he
      have k := k _ (Same.refl _)
      unfold refI at k
      rw [← ho.1] at k
      refine ⟨_, rfl, a, CDesk, dx, _, _, rfl, ha, T.clDesk, T.nE, df_earlier _ _, l, _, rfl, hl, ?_⟩
      rw [List.length_map]
      exact k
    have z10 := int_ne z10
    refine ⟨_, rfl, rfl, _, rfl, tif (fun z12 => ?_) (fun z12 => ?_)⟩
    · have z12 := int_eq z12
      have z12 : c = 12 := by omega
      subst z12
      obtain ⟨x, y, rfl, rfl⟩ := enc12 he
      exact ⟨_, rfl, _, rfl, n, _, _, _, rfl, rfl, SqL.of hn, at_of (j := 0) rfl rfl, _, rfl, n, _, _, _, rfl, rfl, SqL.of hn, at_of (j := 1) rfl rfl,
        p, x, y, i.d, i.w, i.h, i.rows, rfl, hP, g.ok, g.h1, k _ (Same.refl _)⟩
    have z12 := int_ne z12
    have e : refI i pys cl = 0 := by
      cases cl <;> simp [enc] at he <;> first | rfl | (exfalso; omega)
    rw [e] at k
    exact k _ (Same.refl _)
/-! changed -/
def sp_changed (C : Addr) : Sp := fun vs H Q _ => ∃ (p n : Addr) (c : Nat) (args : List Nat) (i m : Im) (cl : Ie05.Call), vs = [.ref p, .int (c : Int), .ref n] ∧ H n = some (.lst (iv args)) ∧ enc cl = c :: args ∧
  PicAt C H p i.d i.rows ∧ Good i ∧ change i cl = .im m ∧ ∀ H' b, Same H H' → PicAt C H' b m.d m.rows → Q (.ref b) H'
theorem Im.turned_d (k : Nat) (i : Im) : (i.turned k).d = i.d := by
  unfold Im.turned
  split <;> rfl
theorem Im.turned_rows (k : Nat) (i : Im) : (i.turned k).rows = turnR k i.rows := by
  unfold Im.turned
  split <;> rfl
theorem ok_changed {f : Addr} {fd : FuncData} (F : Fun K "changed" "changed" s_changed f fd) (T : Txt K mg CPicture CDesk) (f_resized : Fn P w K mg base 4 "resized" ["picture", "call", "w", "h"] (sp_resized CPicture)) (f_turned : Fn P w K mg base 3 "turned" ["picture", "k"] (sp_turned CPicture)) (f_mirrored : Fn P w K mg base 3 "mirrored" ["picture", "k"] (sp_mirrored CPicture)) (f_cut_out : Fn P w K mg base 4 "cut_out" ["picture", "x", "y", "u", "v"] (sp_cut_out CPicture)) (f_bordered : Fn P w K mg base 3 "bordered" ["picture", "left", "above", "right", "below", "f"] (sp_bordered CPicture)) (f_leaned : Fn P w K mg base 3 "leaned" ["picture", "k"] (sp_leaned CPicture)) (f_rounded : Fn P w K mg base 3 "rounded" ["picture"] (sp_rounded CPicture)) (c_TURN : Cst mg "TURN" (4)) (c_MIRROR : Cst mg "MIRROR" (5)) (c_CUT : Cst mg "CUT" (6)) (c_BORDER : Cst mg "BORDER" (7)) (c_LEAN : Cst mg "LEAN" (8)) (c_ROUNDED : Cst mg "ROUNDED" (9)) : FnOk P w K mg base CX0 5 f fd ["picture", "call", "numbers"] (sp_changed CPicture) := by
  refine F.ok sc_changed (fun vs H Q E h => ?_) (fun cdv A outer s H vs Q E hr h => ?_)
  · obtain ⟨_, _, _, _, _, _, _, rfl, _⟩ := h
    rfl
  · obtain ⟨p, n, c, args, i, m, cl, rfl, hn, he, hP, g, hc, k⟩ := h
    obtain ⟨a_resized, d_resized, G_resized, m_resized, k_resized, b_resized⟩ := f_resized
    obtain ⟨a_turned, d_turned, G_turned, m_turned, k_turned, b_turned⟩ := f_turned
    obtain ⟨a_mirrored, d_mirrored, G_mirrored, m_mirrored, k_mirrored, b_mirrored⟩ := f_mirrored
    obtain ⟨a_cut_out, d_cut_out, G_cut_out, m_cut_out, k_cut_out, b_cut_out⟩ := f_cut_out
    obtain ⟨a_bordered, d_bordered, G_bordered, m_bordered, k_bordered, b_bordered⟩ := f_bordered
    obtain ⟨a_leaned, d_leaned, G_leaned, m_leaned, k_leaned, b_leaned⟩ := f_leaned
    obtain ⟨a_rounded, d_rounded, G_rounded, m_rounded, k_rounded, b_rounded⟩ := f_rounded
    obtain ⟨t_TURN, c_TURN⟩ := c_TURN
    obtain ⟨t_MIRROR, c_MIRROR⟩ := c_MIRROR
    obtain ⟨t_CUT, c_CUT⟩ := c_CUT
    obtain ⟨t_BORDER, c_BORDER⟩ := c_BORDER
    obtain ⟨t_LEAN, c_LEAN⟩ := c_LEAN
    obtain ⟨t_ROUNDED, c_ROUNDED⟩ := c_ROUNDED
    have nd := sc_changed.nd
    refine ⟨_, (pss_cons (ps_if (pt_cmpR op_eq (pv 1) (pe_glob (v := .int (4)) rfl c_TURN ⟨_, rfl⟩) (nomark _)) (pss_one (ps_ret (pe_call G_turned (hr.mono (by decide)) rfl m_turned k_turned b_turned .nil pass0 (pa_cons (pv 0) (pa_cons (pe_ix ix_list (pv 2) pe_int (fun _ _ => rfl)) pa_nil))))) pss_nil) (pss_cons (ps_if (pt_cmpR op_eq (pv 1) (pe_glob (v := .int (5)) rfl c_MIRROR ⟨_, rfl⟩) (nomark _)) (pss_one (ps_ret (pe_call G_mirrored (hr.mono (by decide)) rfl m_mirrored k_mirrored b_mirrored .nil pass0 (pa_cons (pv 0) (pa_cons (pe_ix ix_list (pv 2) pe_int (fun _ _ => rfl)) pa_nil))))) pss_nil) (pss_cons (ps_if (pt_cmpR op_eq (pv 1) (pe_glob (v := .int (6)) rfl c_CUT ⟨_, rfl⟩) (nomark _)) (pss_one (ps_ret (pe_call G_cut_out (hr.mono (by decide)) rfl m_cut_out k_cut_out b_cut_out .nil pass0 (pa_cons (pv 0) (pa_cons (pe_ix ix_list (pv 2) pe_int (fun _ _ => rfl)) (pa_cons (pe_ix ix_list (pv 2) pe_int (fun _ _ => rfl)) (pa_cons (pe_ix ix_list (pv 2) pe_int (fun _ _ => rfl)) (pa_cons (pe_ix ix_list (pv 2) pe_int (fun _ _ => rfl)) pa_nil)))))))) pss_nil) (pss_cons (ps_if (pt_cmpR op_eq (pv 1) (pe_glob (v := .int (7)) rfl c_BORDER ⟨_, rfl⟩) (nomark _)) (pss_one (ps_ret (pe_call G_bordered (hr.mono (by decide)) rfl m_bordered k_bordered b_bordered .nil pass0 (pa_cons (pv 0) (pa_cons (pe_ix ix_list (pv 2) pe_int (fun _ _ => rfl)) (pa_cons (pe_ix ix_list (pv 2) pe_int (fun _ _ => rfl)) (pa_cons (pe_ix ix_list (pv 2) pe_int (fun _ _ => rfl)) (pa_cons (pe_ix ix_list (pv 2) pe_int (fun _ _ => rfl)) (pa_cons (pe_ix ix_list (pv 2) pe_int (fun _ _ => rfl)) pa_nil))))))))) pss_nil) (pss_cons (ps_if (pt_cmpR op_eq (pv 1) (pe_glob (v := .int (8)) rfl c_LEAN ⟨_, rfl⟩) (nomark _)) (pss_one (ps_ret (pe_call G_leaned (hr.mono (by decide)) rfl m_leaned k_leaned b_leaned .nil pass0 (pa_cons (pv 0) (pa_cons (pe_ix ix_list (pv 2) pe_int (fun _ _ => rfl)) pa_nil))))) pss_nil) (pss_cons (ps_if (pt_cmpR op_eq (pv 1) (pe_glob (v := .int (9)) rfl c_ROUNDED ⟨_, rfl⟩) (nomark _)) (pss_one (ps_ret (pe_call G_rounded (hr.mono (by decide)) rfl m_rounded k_rounded b_rounded .nil pass0 (pa_cons (pv 0) pa_nil)))) pss_nil) (pss_one (ps_ret (pe_call G_resized (hr.mono (by decide)) rfl m_resized k_resized b_resized .nil pass0 (pa_cons (pv 0) (pa_cons (pv 1) (pa_cons (pe_ix ix_list (pv 2) pe_int (fun _ _ => rfl)) (pa_cons (pe_ix ix_list (pv 2) pe_int (fun _ _ => rfl)) pa_nil))))))))))))), ?_⟩
    have gf := g.toFair
    have w2 := g.w2
    have h2 := g.h2
    refine ⟨_, rfl, rfl, _, rfl, tif (fun z4 => ?_) (fun z4 => ?_)⟩
    · have z4 := int_eq z4
      have z4 : c = 4 := by omega
      subst z4
      obtain ⟨w, rfl, rfl⟩ := enc4 he
      unfold change at hc
      dsimp only at hc
      split at hc
      · cases hc
      · rename_i cc
        have hc : i.turned w = m := by injection hc
        subst hc
        rw [Im.turned_d, Im.turned_rows] at k
        exact ⟨_, rfl, _, rfl, n, _, _, _, rfl, rfl, SqL.of hn, at_of (j := 0) rfl rfl, p, w, i.d, i.w, i.h, i.rows, rfl, hP, g.ok, g.w1, by omega, g.h1, by omega, by omega, k⟩
    have z4 := int_ne z4
    refine ⟨_, rfl, rfl, _, rfl, tif (fun z5 => ?_) (fun z5 => ?_)⟩
    · have z5 := int_eq z5
      have z5 : c = 5 := by omega
      subst z5
      obtain ⟨w, rfl, rfl⟩ := enc5 he
      unfold change at hc
      dsimp only at hc
      split at hc
      · cases hc
      · rename_i cc
        have hc : i.mirrored w = m := by injection hc
        subst hc
        exact ⟨_, rfl, _, rfl, n, _, _, _, rfl, rfl, SqL.of hn, at_of (j := 0) rfl rfl, p, w, i.d, i.rows, rfl, hP, by rw [g.ok.len]; omega, k⟩
    have z5 := int_ne z5
    refine ⟨_, rfl, rfl, _, rfl, tif (fun z6 => ?_) (fun z6 => ?_)⟩
    · have z6 := int_eq z6
      have z6 : c = 6 := by omega
      subst z6
      obtain ⟨x, y, u, v, rfl, rfl⟩ := enc6 he
      unfold change at hc
      dsimp only at hc
      split at hc
      · cases hc
      · rename_i cc
        have hc : Im.lowest u v i.d (cutR x y u v i.rows) = m := by injection hc
        subst hc
        exact ⟨_, rfl, _, rfl, n, _, _, _, rfl, rfl, SqL.of hn, at_of (j := 0) rfl rfl, _, rfl, n, _, _, _, rfl, rfl, SqL.of hn, at_of (j := 1) rfl rfl, _, rfl, n, _, _, _, rfl, rfl, SqL.of hn, at_of (j := 2) rfl rfl, _, rfl, n, _, _, _, rfl, rfl, SqL.of hn, at_of (j := 3) rfl rfl,
          p, x, y, u, v, i.d, i.w, i.h, i.rows, rfl, hP, g.ok, g.d1, g.d2, g.w2, g.h2, by omega, by omega, k⟩
    have z6 := int_ne z6
    refine ⟨_, rfl, rfl, _, rfl, tif (fun z7 => ?_) (fun z7 => ?_)⟩
    · have z7 := int_eq z7
      have z7 : c = 7 := by omega
      subst z7
      obtain ⟨x, y, u, v, f, rfl, rfl⟩ := enc7 he
      unfold change at hc
      dsimp only at hc
      split at hc
      · cases hc
      · rename_i cc
        split at hc
        · cases hc
        · rename_i cc2
          rw [bordL_im gf] at hc
          have hc : (⟨x + i.w + u, y + i.h + v, i.d, bordL x y u v (f * i.d) (x + i.w + u) i.rows⟩ : Im) = m := by injection hc
          subst hc
          obtain ⟨a1, a2, a3, a4⟩ := size_ok cc
          exact ⟨_, rfl, _, rfl, n, _, _, _, rfl, rfl, SqL.of hn, at_of (j := 0) rfl rfl, _, rfl, n, _, _, _, rfl, rfl, SqL.of hn, at_of (j := 1) rfl rfl, _, rfl, n, _, _, _, rfl, rfl, SqL.of hn, at_of (j := 2) rfl rfl, _, rfl, n, _, _, _, rfl, rfl, SqL.of hn, at_of (j := 3) rfl rfl,
            _, rfl, n, _, _, _, rfl, rfl, SqL.of hn, at_of (j := 4) rfl rfl, p, x, y, u, v, f, i.d, i.w, i.h, i.rows, rfl, hP, g.ok, g.d2, g.h1, a2, a4, by omega, k⟩
    have z7 := int_ne z7
    refine ⟨_, rfl, rfl, _, rfl, tif (fun z8 => ?_) (fun z8 => ?_)⟩
    · have z8 := int_eq z8
      have z8 : c = 8 := by omega
      subst z8
      obtain ⟨w, rfl, rfl⟩ := enc8 he
      unfold change at hc
      dsimp only at hc
      split at hc
      · cases hc
      · rename_i cc
        rw [leanL_is gf] at hc
        have hc : i.with (leanL w i.rows) = m := by injection hc
        subst hc
        exact ⟨_, rfl, _, rfl, n, _, _, _, rfl, rfl, SqL.of hn, at_of (j := 0) rfl rfl, p, w, i.d, i.w, i.h, i.rows, rfl, hP, g.ok, g.w1, g.w2, g.h2, by omega, k⟩
    have z8 := int_ne z8
    refine ⟨_, rfl, rfl, _, rfl, tif (fun z9 => ?_) (fun z9 => ?_)⟩
    · have z9 := int_eq z9
      have z9 : c = 9 := by omega
      subst z9
      obtain ⟨rfl, rfl⟩ := enc9 he
      have hc : Im.draw i.w i.h (roundR i) = m := by injection hc
      subst hc
      exact ⟨_, rfl, p, i.d, i.rows, rfl, hP, g.d1, Nat.lt_trans g.d2 (by decide), by rw [g.ok.len]; omega, fun r hr => by rw [g.ok.row r hr]; omega, k⟩
    have z9 := int_ne z9
    have key : ∃ w h, args = [w, h] ∧ ¬ Ie05.sizeOk w h = false ∧ m = i.sized (wtOf c) (wtSum c i.w w) (wtSum c i.h h) w h := by
      cases cl <;> simp [enc] at he <;> first | (exfalso; omega) | skip
      case area w h =>
        obtain ⟨rfl, rfl⟩ := he
        unfold change at hc
        dsimp only at hc
        split at hc
        · cases hc
        · rename_i cc
          exact ⟨w, h, rfl, cc, by injection hc with hc; exact hc.symm⟩
      case nearest w h =>
        obtain ⟨rfl, rfl⟩ := he
        unfold change at hc
        dsimp only at hc
        split at hc
        · cases hc
        · rename_i cc
          exact ⟨w, h, rfl, cc, by injection hc with hc; exact hc.symm⟩
      case between w h =>
        obtain ⟨rfl, rfl⟩ := he
        unfold change at hc
        dsimp only at hc
        split at hc
        · cases hc
        · rename_i cc
          exact ⟨w, h, rfl, cc, by injection hc with hc; exact hc.symm⟩
      all_goals cases hc
    obtain ⟨w, h, rfl, cc, rfl⟩ := key
    obtain ⟨a1, a2, a3, a4⟩ := size_ok cc
    exact ⟨_, rfl, _, rfl, _, rfl, n, _, _, _, rfl, rfl, SqL.of hn, at_of (j := 0) rfl rfl, _, rfl, n, _, _, _, rfl, rfl, SqL.of hn, at_of (j := 1) rfl rfl, p, c, w, h, i.d, i.w, i.h, i.rows, rfl, hP, g.ok, g.d1, g.d2, g.w1, g.w2, g.h1, g.h2, a1, a2, a3, a4, k⟩
end
end Pa

set_option Elab.async false
set_option maxRecDepth 100000
set_option maxHeartbeats 4000000
set_option linter.all false
namespace Pa
open PySem PySem.Spec PyProof.Rows L2
section
variable {P : Program} {w : World} {K : PySem.W.Frag} {mg : Str → Option Value} {base : Heap} {CPicture CDesk : Addr}
/-! ### the answers -/
structure Fine (i : Im) (pys : List Im) : Prop where
  good : Good i
  olds : ∀ o ∈ pys, Good o
  most : pys.length ≤ 16
theorem DeskAt.keep {C CD : Addr} {F H : Hp} {a : Addr} {i : Im} {pys : List Im} (h : DeskAt C CD F H a i pys) : Same F H := by
  obtain ⟨_, _, _, _, _, _, _, _, s, _⟩ := h
  exact s
/-- what an answer's maker has to leave -/
def Post (C CD : Addr) (F : Hp) (a : Addr) (i : Im) (pys : List Im) (cl : Ie05.Call) (Q : VK) : Prop := ∀ (H' F' : Hp) (q : Addr) (i' : Im) (pys' : List Im) (ans : List Int), Same F F' → DeskAt C CD F' H' a i' pys' → Fine i' pys' →
  Ie05.step (st i pys.reverse) cl = (st i' pys'.reverse, ans) → H' q = some (.lst (ans.map V.int)) → Q (.ref q) H'
def sp_size_and_d (C : Addr) : Sp := fun vs H Q _ => ∃ (p : Addr) (i : Im), vs = [.ref p] ∧ PicAt C H p i.d i.rows ∧ Fair i ∧
  ∀ H' q, Same H H' → H q = none → H' q = some (.lst (iv [i.w, i.h, i.d])) → Q (.ref q) H'
theorem ok_size_and_d {f : Addr} {fd : FuncData} (F : Fun K "size_and_d" "size_and_d" s_size_and_d f fd) (T : Txt K mg CPicture CDesk) (f_Picture_width : Me P w K mg base 1 CPicture "width" ["self"] (sp_width CPicture)) (f_Picture_height : Me P w K mg base 1 CPicture "height" ["self"] (sp_height CPicture)) : FnOk P w K mg base CX0 2 f fd ["picture"] (sp_size_and_d CPicture) := by
  refine F.ok sc_size_and_d (fun vs H Q E h => ?_) (fun cdv A outer s H vs Q E hr h => ?_)
  · obtain ⟨_, _, rfl, _⟩ := h
    rfl
  · obtain ⟨a, i, rfl, hP, g, k⟩ := h
    obtain ⟨a_Picture_width, d_Picture_width, G_Picture_width, m_Picture_width, b_Picture_width⟩ := f_Picture_width
    obtain ⟨a_Picture_height, d_Picture_height, G_Picture_height, m_Picture_height, b_Picture_height⟩ := f_Picture_height
    have nd := sc_size_and_d.nd
    refine ⟨_, (pss_one (ps_ret (pe_lst (pa_cons (pe_meth0 (pv 0) T.clPicture m_Picture_width G_Picture_width (hr.mono (by decide)) b_Picture_width .nil pass0) (pa_cons (pe_meth0 (pv 0) T.clPicture m_Picture_height G_Picture_height (hr.mono (by decide)) b_Picture_height .nil pass0) (pa_cons (pe_fld (pv 0) rfl) pa_nil)))))), ?_⟩
    have ok := g.ok
    have h0 : 0 < i.rows.length := by rw [ok.len]; exact g.h1
    have hr0 := List.getElem?_eq_getElem h0
    have hlen : ((i.rows[0].length : Nat) : Int) = (i.w : Int) := by rw [ok.row _ (List.getElem_mem h0)]
    have hlen2 : ((i.rows.length : Nat) : Int) = (i.h : Int) := by rw [ok.len]
    have hP0 := hP
    obtain ⟨dx, p, ha, hR⟩ := hP
    refine ⟨_, rfl, a, dx, _, rfl, ha, pf_no _ _ (by decide +kernel) (by decide +kernel), a, i.d, i.rows, i.rows[0], rfl, hP0, hr0, ?_⟩
    refine ⟨_, rfl, a, dx, _, rfl, ha, pf_no _ _ (by decide +kernel) (by decide +kernel), a, i.d, i.rows, rfl, hP0, ?_⟩
    refine ⟨_, rfl, a, CPicture, dx, _, _, rfl, ha, T.clPicture, T.nD, pf_d _ _, (by show 3 ≤ sizeLine; decide), fun q nq => k _ q (same_new nq) nq ?_⟩
    rw [upd_same, hlen, hlen2]
    rfl
def fracN (u l : Nat) : List Nat := [u / Nat.gcd u l, l / Nat.gcd u l, Ie05.near u l]
def sp_fraction_and_nearest : Sp := fun vs H Q _ => ∃ (u l : Nat), vs = [.int (u : Int), .int (l : Int)] ∧ 0 < l ∧ l < 2 ^ 62 ∧
  ∀ H' q, Same H H' → H q = none → H' q = some (.lst (iv (fracN u l))) → Q (.ref q) H'
theorem ok_fraction_and_nearest {f : Addr} {fd : FuncData} (F : Fun K "fraction_and_nearest" "fraction_and_nearest" s_fraction_and_nearest f fd) (T : Txt K mg CPicture CDesk) (f_common_divisor : Fn P w K mg base 1 "common_divisor" ["first", "second"] (sp_common_divisor)) (f_nearest_whole : Fn P w K mg base 1 "nearest_whole" ["upper", "lower"] (sp_nearest_whole)) : FnOk P w K mg base CX0 2 f fd ["upper", "lower"] (sp_fraction_and_nearest) := by
  refine F.ok sc_fraction_and_nearest (fun vs H Q E h => ?_) (fun cdv A outer s H vs Q E hr h => ?_)
  · obtain ⟨u, l, rfl, hl, hl2, k⟩ := h
    rfl
  · obtain ⟨u, l, rfl, hl, hl2, k⟩ := h
    obtain ⟨a_common_divisor, d_common_divisor, G_common_divisor, m_common_divisor, k_common_divisor, b_common_divisor⟩ := f_common_divisor
    obtain ⟨a_nearest_whole, d_nearest_whole, G_nearest_whole, m_nearest_whole, k_nearest_whole, b_nearest_whole⟩ := f_nearest_whole
    have nd := sc_fraction_and_nearest.nd
    refine ⟨_, (pss_cons (ps_set (i := 2) nd rfl (Or.inl rfl) (pe_call G_common_divisor (hr.mono (by decide)) rfl m_common_divisor k_common_divisor b_common_divisor .nil pass0 (pa_cons (pv 0) (pa_cons (pv 1) pa_nil)))) (pss_one (ps_ret (pe_lst (pa_cons (pe_op op_fdivW (pv 0) (pv 2)) (pa_cons (pe_op op_fdivW (pv 1) (pv 2)) (pa_cons (pe_call G_nearest_whole (hr.mono (by decide)) rfl m_nearest_whole k_nearest_whole b_nearest_whole .nil pass0 (pa_cons (pv 0) (pa_cons (pv 1) pa_nil))) pa_nil))))))), ?_⟩
    have g1 : 0 < Nat.gcd u l := Nat.gcd_pos_of_pos_right u hl
    have g2 : Nat.gcd u l ≤ l := Nat.le_of_dvd hl (Nat.gcd_dvd_right u l)
    have wd : ∀ x : Int, CDivW x ((Nat.gcd u l : Nat) : Int) := fun x => wide_div (b := 64) (by omega) (by rw [Int.natAbs_natCast]; omega) (by decide) (by decide)
    refine ⟨_, rfl, _, rfl, u, l, rfl, ?_⟩
    refine ⟨_, rfl, _, rfl, _, _, rfl, rfl, wd _, _, rfl, _, rfl, _, _, rfl, rfl, wd _, _, rfl, _, rfl, u, l, rfl, hl, hl2, (by show 3 ≤ sizeLine; decide), fun q nq => k _ q (same_new nq) nq ?_⟩
    rw [upd_same]
    rfl
theorem iv_ci (l : List Nat) : iv l = (ci l).map V.int := by simp [iv, ci]
/-! answer_to_now -/
theorem flat_take (rows : Rows) (j : Nat) : (rows.take j).flatten.length ≤ rows.flatten.length := by
  have e : rows.flatten = (rows.take j).flatten ++ (rows.drop j).flatten := by rw [← List.flatten_append, List.take_append_drop]
  rw [e, List.length_append]
  omega
def sp_answer_to_now (C : Addr) : Sp := fun vs H Q _ => ∃ (p : Addr) (i : Im), vs = [.ref p] ∧ PicAt C H p i.d i.rows ∧ Fair i ∧
  ∀ H' q, Same H H' → H' q = some (.lst (iv (i.w :: i.h :: i.d :: i.rows.flatten))) → Q (.ref q) H'
theorem ok_answer_to_now {f : Addr} {fd : FuncData} (F : Fun K "answer_to_now" "answer_to_now" s_answer_to_now f fd) (T : Txt K mg CPicture CDesk) (f_size_and_d : Fn P w K mg base 2 "size_and_d" ["picture"] (sp_size_and_d CPicture)) : FnOk P w K mg base CX0 3 f fd ["picture"] (sp_answer_to_now CPicture) := by
  refine F.ok sc_answer_to_now (fun vs H Q E h => ?_) (fun cdv A outer s H vs Q E hr h => ?_)
  · obtain ⟨_, _, rfl, _⟩ := h
    rfl
  · obtain ⟨a, i, rfl, hP, g, k⟩ := h
    obtain ⟨a_size_and_d, d_size_and_d, G_size_and_d, m_size_and_d, k_size_and_d, b_size_and_d⟩ := f_size_and_d
    have nd := sc_answer_to_now.nd
    refine ⟨_, (pss_cons (ps_set (i := 1) nd rfl (Or.inl rfl) (pe_call G_size_and_d (hr.mono (by decide)) rfl m_size_and_d k_size_and_d b_size_and_d .nil pass0 (pa_cons (pv 0) pa_nil))) (pss_cons (ps_for PassesOwn.never rfl (pi_list (pe_fld (pv 0) rfl)) (pg_name (i := 2) nd rfl (Or.inl rfl)) (pss_one (ps_expr (pe_bm PySem.F.plainAttrs_list PySem.F.slot_list_extend PySem.F.type_list_extend mt_extend (pv 1) (pa_cons (pv 2) pa_nil))))) (pss_one (ps_ret (pv 1))))), ?_⟩
    have hP0 := hP
    obtain ⟨dx, p, ha, qs, hp, hql, hqq⟩ := hP
    refine ⟨_, rfl, a, i, rfl, hP0, g, fun H1 q s1 n1 e1 => ?_⟩
    have hsz : i.rows.flatten.length ≤ 144 := by
      rw [draw_flat g.ok]
      exact Nat.le_trans (Nat.mul_le_mul g.w2 g.h2) (by decide)
    refine ⟨_, rfl, a, CPicture, dx, _, _, rfl, s1 _ _ ha, T.clPicture, T.nR, pf_rows _ _, p, rfl, ⟨_, SqL.of (s1 _ _ hp)⟩, for_list (K := K) (a := p) (xs := qs.map V.ref)
      (fun j σ H' => Same H H' ∧ (∃ v : Option V, σ = [some (.ref a), some (.ref q), v]) ∧ H' q = some (.lst (iv (i.w :: i.h :: i.d :: (i.rows.take j).flatten)))) ⟨s1, ⟨none, rfl⟩, e1⟩ (fun j σ H' _ h => SqL.of (h.1 _ _ hp)) ?_ ?_⟩
    · rintro j x σ H' hx ⟨s2, ⟨v, rfl⟩, e2⟩
      obtain ⟨z, hzi, rfl⟩ := refs_of hx
      have hj : j < i.rows.length := by
        have := (List.getElem?_eq_some_iff.mp hzi).1
        omega
      have hrj := List.getElem?_eq_getElem hj
      have hz := s2 _ _ (hqq j z _ hzi hrj)
      have e : (i.rows.take (j + 1)).flatten = (i.rows.take j).flatten ++ i.rows[j] := by
        rw [take_more hrj, List.flatten_append]
        simp
      refine ⟨_, rfl, .inl ⟨rfl, _, SqL.of e2⟩, _, rfl, q, z, _, _, rfl, rfl, e2, hz, ?_, same_off s2 n1, ⟨_, rfl⟩, ?_⟩
      · have := flat_take i.rows (j + 1)
        rw [e, List.length_append] at this
        simp only [iv_len, List.length_cons]
        exact sz1000 (by omega)
      · rw [upd_same, iv_app, e]
        rfl
    · rintro σ H' ⟨s2, ⟨v, rfl⟩, e2⟩
      rw [List.length_map, hql, List.take_length] at e2
      exact ⟨_, rfl, k H' q s2 e2⟩
/-! answer_to_cell -/
def sp_answer_to_cell (C : Addr) : Sp := fun vs H Q _ => ∃ (p : Addr) (x y : Nat) (i : Im), vs = [.ref p, .int (x : Int), .int (y : Int)] ∧ PicAt C H p i.d i.rows ∧ Good i ∧ x < i.w ∧ y < i.h ∧
  ∀ H' q, Same H H' → H' q = some (.lst (iv (fracN (at2 i.rows x y) i.d))) → Q (.ref q) H'
theorem ok_answer_to_cell {f : Addr} {fd : FuncData} (F : Fun K "answer_to_cell" "answer_to_cell" s_answer_to_cell f fd) (T : Txt K mg CPicture CDesk) (f_fraction_and_nearest : Fn P w K mg base 2 "fraction_and_nearest" ["upper", "lower"] (sp_fraction_and_nearest)) : FnOk P w K mg base CX0 3 f fd ["picture", "x", "y"] (sp_answer_to_cell CPicture) := by
  refine F.ok sc_answer_to_cell (fun vs H Q E h => ?_) (fun cdv A outer s H vs Q E hr h => ?_)
  · obtain ⟨_, _, _, _, rfl, _⟩ := h
    rfl
  · obtain ⟨a, x, y, i, rfl, hP, g, hx, hy, k⟩ := h
    obtain ⟨a_fraction_and_nearest, d_fraction_and_nearest, G_fraction_and_nearest, m_fraction_and_nearest, k_fraction_and_nearest, b_fraction_and_nearest⟩ := f_fraction_and_nearest
    have nd := sc_answer_to_cell.nd
    refine ⟨_, (pss_one (ps_ret (pe_call G_fraction_and_nearest (hr.mono (by decide)) rfl m_fraction_and_nearest k_fraction_and_nearest b_fraction_and_nearest .nil pass0 (pa_cons (pe_ix ix_list (pe_ix ix_list (pe_fld (pv 0) rfl) (pv 2) (fun _ _ => rfl)) (pv 1) (fun _ _ => rfl)) (pa_cons (pe_fld (pv 0) rfl) pa_nil))))), ?_⟩
    obtain ⟨dx, p, ha, hR⟩ := hP
    have hy' : y < i.rows.length := by rw [g.ok.len]; exact hy
    have hry := List.getElem?_eq_getElem hy'
    have hx' : x < i.rows[y].length := by rw [g.ok.row _ (List.getElem_mem hy')]; exact hx
    have e : at2 i.rows x y = i.rows[y][x] := by simp [at2, List.getD, hry, List.getElem?_eq_getElem hx']
    obtain ⟨vs, q, hp, hv, hq, _⟩ := hR.row hry
    rw [e] at k
    refine ⟨_, rfl, a, CPicture, dx, _, _, rfl, ha, T.clPicture, T.nR, pf_rows _ _, _, rfl, p, _, _, _, rfl, rfl, SqL.of hp, at_of (j := y) rfl hv, _, rfl, q, _, _, _, rfl, rfl, SqL.of hq, at_of (j := x) rfl (iv_get (List.getElem?_eq_getElem hx')), ?_⟩
    exact ⟨_, rfl, a, CPicture, dx, _, _, rfl, ha, T.clPicture, T.nD, pf_d _ _, i.rows[y][x], i.d, rfl, g.d1, Nat.lt_trans g.d2 (by decide), fun H' q' s' n' e' => k H' q' s' e'⟩
/-! answer_to_told -/
theorem sum_flat : ∀ rows : Rows, (rows.map List.sum).sum = rows.flatten.sum
  | [] => rfl
  | r :: rows => by rw [List.map_cons, List.sum_cons, sum_flat rows, List.flatten_cons, List.sum_append]
def sp_answer_to_told (C : Addr) : Sp := fun vs H Q _ => ∃ (p : Addr) (i : Im), vs = [.ref p] ∧ PicAt C H p i.d i.rows ∧ Good i ∧
  ∀ H' q, Same H H' → H' q = some (.lst (iv (i.w :: i.h :: fracN i.rows.flatten.sum (i.d * i.w * i.h)))) → Q (.ref q) H'
theorem ok_answer_to_told {f : Addr} {fd : FuncData} (F : Fun K "answer_to_told" "answer_to_told" s_answer_to_told f fd) (T : Txt K mg CPicture CDesk) (f_Picture_width : Me P w K mg base 1 CPicture "width" ["self"] (sp_width CPicture)) (f_Picture_height : Me P w K mg base 1 CPicture "height" ["self"] (sp_height CPicture)) (f_fraction_and_nearest : Fn P w K mg base 2 "fraction_and_nearest" ["upper", "lower"] (sp_fraction_and_nearest)) : FnOk P w K mg base CX0 3 f fd ["picture"] (sp_answer_to_told CPicture) := by
  refine F.ok sc_answer_to_told (fun vs H Q E h => ?_) (fun cdv A outer s H vs Q E hr h => ?_)
  · obtain ⟨_, _, rfl, _⟩ := h
    rfl
  · obtain ⟨a, i, rfl, hP, g, k⟩ := h
    obtain ⟨a_Picture_width, d_Picture_width, G_Picture_width, m_Picture_width, b_Picture_width⟩ := f_Picture_width
    obtain ⟨a_Picture_height, d_Picture_height, G_Picture_height, m_Picture_height, b_Picture_height⟩ := f_Picture_height
    obtain ⟨a_fraction_and_nearest, d_fraction_and_nearest, G_fraction_and_nearest, m_fraction_and_nearest, k_fraction_and_nearest, b_fraction_and_nearest⟩ := f_fraction_and_nearest
    have nd := sc_answer_to_told.nd
    refine ⟨_, (pss_cons (ps_set (i := 1) nd rfl (Or.inl rfl) (pe_meth0 (pv 0) T.clPicture m_Picture_width G_Picture_width (hr.mono (by decide)) b_Picture_width .nil pass0)) (pss_cons (ps_set (i := 2) nd rfl (Or.inl rfl) (pe_meth0 (pv 0) T.clPicture m_Picture_height G_Picture_height (hr.mono (by decide)) b_Picture_height .nil pass0)) (pss_cons (ps_set (i := 3) nd rfl (Or.inl rfl) (pe_callB (cr_sum rfl) (by rfl) T.sum (by decide +kernel) (pa_cons (pe_lc (own := [("row", 4)]) (g := (gName 4)) (tt := tYes) (te := (tCB (rSum K) (tCons (tVar 4) tNil))) rfl nd (pi_list (pe_fld (pv 0) rfl)) (blkOk_by (own := [("row", 4)]) (N := ["picture", "width", "height", "total", "row"]) (sc := defScope s_answer_to_told) (by decide +kernel)) (fun _ _ _ _ _ => (pg_name (i := 4) nd rfl (Or.inl rfl))) (fun _ _ _ _ _ => pts_nil) (fun _ _ _ _ _ => (pe_callB (cr_sum rfl) (by rfl) T.sum (by decide +kernel) (pa_cons (pv 4) pa_nil)))) pa_nil))) (pss_one (ps_ret (pe_op op_cat (pe_lst (pa_cons (pv 1) (pa_cons (pv 2) pa_nil))) (pe_call G_fraction_and_nearest (hr.mono (by decide)) rfl m_fraction_and_nearest k_fraction_and_nearest b_fraction_and_nearest .nil pass0 (pa_cons (pv 3) (pa_cons (pe_op op_mul (pe_op op_mul (pe_fld (pv 0) rfl) (pv 1)) (pv 2)) pa_nil))))))))), ?_⟩
    have ok := g.ok
    have h0 : 0 < i.rows.length := by rw [ok.len]; exact g.h1
    have hr0 := List.getElem?_eq_getElem h0
    have hlen : ((i.rows[0].length : Nat) : Int) = (i.w : Int) := by rw [ok.row _ (List.getElem_mem h0)]
    have hlen2 : ((i.rows.length : Nat) : Int) = (i.h : Int) := by rw [ok.len]
    have w2 := g.w2
    have h2 := g.h2
    have d2 := g.d2
    have hP0 := hP
    obtain ⟨dx, p, ha, qs, hp, hql, hqq⟩ := hP
    refine ⟨_, rfl, a, dx, _, rfl, ha, pf_no _ _ (by decide +kernel) (by decide +kernel), a, i.d, i.rows, i.rows[0], rfl, hP0, hr0, ?_⟩
    refine ⟨_, rfl, a, dx, _, rfl, ha, pf_no _ _ (by decide +kernel) (by decide +kernel), a, i.d, i.rows, rfl, hP0, ?_⟩
    rw [hlen, hlen2]
    refine ⟨_, rfl, a, CPicture, dx, _, _, rfl, ha, T.clPicture, T.nR, pf_rows _ _, p, rfl, ⟨_, SqL.of hp⟩, fun D hD => ?_⟩
    refine lc_int (walk_list (K := K) (a := p) (xs := qs.map V.ref)) (fun j => (i.rows.getD j []).sum) hD (by rw [List.length_map, hql, ok.len]; exact sz1000 (by omega)) (fun H2 s => SqL.of (s _ _ hp)) (fun i H x H' y => by rw [y.1]; exact Same.refl _) ?_ (gName_mono 4) ?_
    · rintro j y H2 H3 Q' hj s ⟨rfl, hy⟩ hQ
      obtain ⟨q, hqi, rfl⟩ := refs_of hy
      have hj : j < i.rows.length := by
        have := (List.getElem?_eq_some_iff.mp hqi).1
        omega
      have hrj := List.getElem?_eq_getElem hj
      have e : i.rows.getD j [] = i.rows[j] := by simp [List.getD, hrj]
      rw [e] at hQ
      refine ⟨rfl, _, rfl, q, i.rows[j].map fun (n : Nat) => (n : Int), rfl, SqL.of (by rw [s _ _ (hqq j q _ hqi hrj), iv_ints]), ?_⟩
      rw [cast_sum]
      exact hQ _ (Same.refl _)
    · intro H2 s hD2
      have e : (List.range (qs.map V.ref).length).map (fun j => (i.rows.getD j []).sum) = i.rows.map List.sum := by
        rw [List.length_map, hql]
        exact map_range_rows i.rows List.sum
      rw [e] at hD2
      refine ⟨D, (i.rows.map List.sum).map fun (n : Nat) => (n : Int), rfl, SqL.of (by rw [hD2, iv_ints]), ?_⟩
      rw [cast_sum, sum_flat]
      refine ⟨_, rfl, _, rfl, (by show 2 ≤ sizeLine; decide), fun q1 n1 => ?_⟩
      have s1 := same_new (o := .lst [V.int (i.w : Int), V.int (i.h : Int)]) n1
      have hw : (i.d : Int) * (i.w : Int) * (i.h : Int) = ((i.d * i.w * i.h : Nat) : Int) := by simp
      have pos : 0 < i.d * i.w * i.h := Nat.mul_pos (Nat.mul_pos g.d1 g.w1) g.h1
      have lt : i.d * i.w * i.h < 2 ^ 62 := by
        have e1 : i.d * i.w ≤ 2 ^ 32 * 12 := Nat.mul_le_mul (by omega) w2
        have e2 : i.d * i.w * i.h ≤ 2 ^ 32 * 12 * 12 := Nat.mul_le_mul e1 h2
        exact Nat.lt_of_le_of_lt e2 (by decide)
      refine ⟨_, rfl, _, rfl, a, CPicture, dx, _, _, rfl, s1 _ _ (s _ _ ha), T.clPicture, T.nD, pf_d _ _, _, rfl, _, _, rfl, rfl, .inl ⟨by omega, by omega⟩, _, rfl, _, _, rfl, rfl, .inr ⟨by omega, by omega⟩, ?_⟩
      refine ⟨i.rows.flatten.sum, i.d * i.w * i.h, by simp, pos, lt, fun H3 q3 s3 n3 e3 => ?_⟩
      refine ⟨q1, q3, _, _, rfl, rfl, s3 _ _ upd_same, e3, ?_, fun q4 n4 => ?_⟩
      · rw [iv_len]
        show 2 + 3 ≤ sizeLine
        decide
      · refine k _ q4 (same_newer (s.trans (s1.trans s3)) n4) ?_
        rw [upd_same]
        rfl
end
end Pa

set_option Elab.async false
set_option maxRecDepth 100000
set_option maxHeartbeats 4000000
set_option linter.all false
namespace Pa
open PySem PySem.Spec PyProof.Rows L2
section
variable {P : Program} {w : World} {K : PySem.W.Frag} {mg : Str → Option Value} {base : Heap} {CPicture CDesk : Addr}
/-! answer_to_picture -/
def sp_answer_to_picture (C CD : Addr) : Sp := fun vs H Q _ => ∃ (a q : Addr) (w h : Nat) (cells : List Nat) (F : Hp) (i : Im) (pys : List Im), vs = [.ref a, .int (w : Int), .int (h : Int), .ref q] ∧ H q = some (.lst (iv cells)) ∧ DeskAt C CD F H a i pys ∧ w ≤ 12 ∧ h ≤ 12 ∧ cells.length = w * h ∧
  ∀ H' F' b, Same F F' → DeskAt C CD F' H' a (Im.draw w h (drawnR w h cells)) [] → H' b = some (.lst (iv [w, h])) → Q (.ref b) H'
theorem ok_answer_to_picture {f : Addr} {fd : FuncData} (F : Fun K "answer_to_picture" "answer_to_picture" s_answer_to_picture f fd) (T : Txt K mg CPicture CDesk) (f_Desk_begin : Me P w K mg base 1 CDesk "begin" ["self", "fresh"] (sp_begin CPicture CDesk)) (f_drawn : Fn P w K mg base 3 "drawn" ["w", "h", "cells"] (sp_drawn CPicture)) : FnOk P w K mg base CX0 4 f fd ["desk", "w", "h", "cells"] (sp_answer_to_picture CPicture CDesk) := by
  refine F.ok sc_answer_to_picture (fun vs H Q E h => ?_) (fun cdv A outer s H vs Q E hr h => ?_)
  · obtain ⟨_, _, _, _, _, _, _, _, rfl, _⟩ := h
    rfl
  · obtain ⟨a, q, w, h, cells, F, i, pys, rfl, hq, ⟨dx, p, l, qs, ha, hl, hFa, hFl, hF, hp, ho⟩, hw, hh, hc, k⟩ := h
    obtain ⟨a_Desk_begin, d_Desk_begin, G_Desk_begin, m_Desk_begin, b_Desk_begin⟩ := f_Desk_begin
    obtain ⟨a_drawn, d_drawn, G_drawn, m_drawn, k_drawn, b_drawn⟩ := f_drawn
    have nd := sc_answer_to_picture.nd
    refine ⟨_, (pss_cons (ps_expr (pe_meth (pv 0) T.clDesk m_Desk_begin G_Desk_begin (hr.mono (by decide)) b_Desk_begin .nil pass0 (pa_cons (pe_call G_drawn (hr.mono (by decide)) rfl m_drawn k_drawn b_drawn .nil pass0 (pa_cons (pv 1) (pa_cons (pv 2) (pa_cons (pv 3) pa_nil)))) pa_nil))) (pss_one (ps_ret (pe_lst (pa_cons (pv 1) (pa_cons (pv 2) pa_nil)))))), ?_⟩
    refine ⟨_, rfl, a, dx, _, rfl, ha, df_no _ _ (by decide +kernel) (by decide +kernel), _, rfl, _, rfl, _, rfl, w, h, q, cells, rfl, hq, hw, hh, hc, fun H1 b s1 hb => ?_⟩
    refine ⟨a, b, dx, p, l, off H1 a, Im.draw w h (drawnR w h cells), rfl, s1 _ _ ha, off_self _ _, off_same _ _, PicAt.off_desk (s1 _ _ ha) hb, fun H2 hD => ?_⟩
    refine ⟨_, rfl, _, rfl, (by show 2 ≤ sizeLine; decide), fun r nr => ?_⟩
    exact k _ _ r (same_into (hF.trans s1) hFa) (hD.same (same_new nr)) upd_same
/-! answer_to_change -/
theorem PicAt.off_frz {C : Addr} {H : Hp} {l b : Addr} {o : Obj} {u : HO} {d : Nat} {rows : Rows} (hl : H l = some (.frz o u)) (h : PicAt C H b d rows) : PicAt C (off H l) b d rows := by
  refine h.move (fun x xs e => ?_) (fun x C2 dx2 n q e => ?_)
  · rw [off_ne (ne_of e hl (by intro z; cases z))]
    exact e
  · rw [off_ne (ne_of e hl (by intro z; cases z))]
    exact e
theorem last16_rev {pys : List Im} {i : Im} (h : pys.length ≤ 16) : (last16 (pys ++ [i])).reverse = (i :: pys.reverse).take 16 := by
  unfold last16
  split
  · rename_i c
    have hl : pys.length = 16 := by
      simp at c
      omega
    have e : i :: pys.reverse = (pys ++ [i]).reverse := by simp
    rw [e, List.reverse_drop]
    simp [hl]
  · rename_i c
    rw [List.take_of_length_le (by simp at c; simp; omega)]
    simp
theorem last16_mem {pys : List Im} {i o : Im} (h : o ∈ last16 (pys ++ [i])) : o ∈ pys ∨ o = i := by
  have h2 : o ∈ pys ++ [i] := by
    unfold last16 at h
    split at h
    · exact List.mem_of_mem_drop h
    · exact h
  simpa using h2
theorem last16_len {pys : List Im} {i : Im} (h : pys.length ≤ 16) : (last16 (pys ++ [i])).length ≤ 16 := by
  unfold last16
  split
  · simp
    omega
  · rename_i c
    omega
def sp_answer_to_change (C CD : Addr) : Sp := fun vs H Q _ => ∃ (a n : Addr) (c : Nat) (args : List Nat) (F : Hp) (i m : Im) (pys : List Im) (cl : Ie05.Call), vs = [.ref a, .int (c : Int), .ref n] ∧ F n = some (.lst (iv args)) ∧ enc cl = c :: args ∧ DeskAt C CD F H a i pys ∧ Fine i pys ∧ change i cl = .im m ∧ Post C CD F a i pys cl Q
theorem ok_answer_to_change {f : Addr} {fd : FuncData} (F : Fun K "answer_to_change" "answer_to_change" s_answer_to_change f fd) (T : Txt K mg CPicture CDesk) (f_changed : Fn P w K mg base 5 "changed" ["picture", "call", "numbers"] (sp_changed CPicture)) (f_Desk_change : Me P w K mg base 1 CDesk "change" ["self", "fresh"] (sp_change CPicture CDesk)) (f_size_and_d : Fn P w K mg base 2 "size_and_d" ["picture"] (sp_size_and_d CPicture)) (c_FIRST_D_REFUSED : Cst mg "FIRST_D_REFUSED" (4294967296)) (c_D_TOO_LARGE : Cst mg "D_TOO_LARGE" (-9)) : FnOk P w K mg base CX0 6 f fd ["desk", "call", "numbers"] (sp_answer_to_change CPicture CDesk) := by
  refine F.ok sc_answer_to_change (fun vs H Q E h => ?_) (fun cdv A outer s H vs Q E hr h => ?_)
  · obtain ⟨_, _, _, _, _, _, _, _, _, rfl, _⟩ := h
    rfl
  · obtain ⟨a, n, c, args, F, i, m, pys, cl, rfl, hn, he, ⟨dx, p, l, qs, ha, hl, hFa, hFl, hF, hp, ho⟩, fine, hc, k⟩ := h
    obtain ⟨a_changed, d_changed, G_changed, m_changed, k_changed, b_changed⟩ := f_changed
    obtain ⟨a_Desk_change, d_Desk_change, G_Desk_change, m_Desk_change, b_Desk_change⟩ := f_Desk_change
    obtain ⟨a_size_and_d, d_size_and_d, G_size_and_d, m_size_and_d, k_size_and_d, b_size_and_d⟩ := f_size_and_d
    obtain ⟨t_FIRST_D_REFUSED, c_FIRST_D_REFUSED⟩ := c_FIRST_D_REFUSED
    obtain ⟨t_D_TOO_LARGE, c_D_TOO_LARGE⟩ := c_D_TOO_LARGE
    have nd := sc_answer_to_change.nd
    refine ⟨_, (pss_cons (ps_lock (ps_set (i := 3) nd rfl (Or.inl rfl) (pe_call G_changed (hr.mono (by decide)) rfl m_changed k_changed b_changed .nil pass0 (pa_cons (pe_fld (pv 0) rfl) (pa_cons (pv 1) (pa_cons (pv 2) pa_nil)))))) (pss_cons (ps_if (pt_cmpR op_ge (pe_fld (pv 3) rfl) (pe_glob (v := .int (4294967296)) rfl c_FIRST_D_REFUSED ⟨_, rfl⟩) (nomark _)) (pss_one (ps_ret (pe_lst (pa_cons (pe_glob (v := .int (-9)) rfl c_D_TOO_LARGE ⟨_, rfl⟩) pa_nil)))) pss_nil) (pss_cons (ps_expr (pe_meth (pv 0) T.clDesk m_Desk_change G_Desk_change (hr.mono (by decide)) b_Desk_change .nil pass0 (pa_cons (pv 3) pa_nil))) (pss_one (ps_ret (pe_call G_size_and_d (hr.mono (by decide)) rfl m_size_and_d k_size_and_d b_size_and_d .nil pass0 (pa_cons (pv 3) pa_nil))))))), ?_⟩
    have nla : l ≠ a := ne_of hl ha (by intro z; cases z)
    obtain ⟨fm, hstep⟩ := change_im fine.good hc pys.reverse
    refine ⟨l, _, hl, trivial, fun od => ?_⟩
    have hFl1 : Same F (upd H l (.frz od (.lst (qs.map V.ref)))) := same_off hF hFl
    have ha1 : upd H l (.frz od (.lst (qs.map V.ref))) a = some (.ins CDesk dx (df p l)) := by rw [upd_ne (Ne.symm nla)]; exact ha
    refine ⟨_, rfl, a, CDesk, dx, _, _, rfl, ha1, T.clDesk, T.nP, df_picture _ _, _, rfl, _, rfl, p, n, c, args, i, m, cl, rfl, hFl1 _ _ hn, he, hp.same hFl1, fine.good, hc, fun H1 b s1 hb => ?_⟩
    have hl1 := s1 _ _ upd_same
    have ha1 := s1 _ _ ha1
    have hF1 := hFl1.trans s1
    refine ⟨hl1, ?_⟩
    -- what stays when the desk changes
    have hb1 := PicAt.off_desk (a := a) (by rw [off_ne (Ne.symm nla)]; exact ha1) (PicAt.off_frz hl1 hb)
    have fl : off (off H1 l) a l = none := off_none (off_self _ _)
    have fa : off (off H1 l) a a = none := off_self _ _
    have sFF : Same F (off (off H1 l) a) := same_into (same_into hF1 hFl) hFa
    have sF2 : Same (off (off H1 l) a) (upd H1 l (.lst (qs.map V.ref))) := same_off ((off_same _ _).trans (off_same _ _)) fl
    have ha2 : upd H1 l (.lst (qs.map V.ref)) a = some (.ins CDesk dx (df p l)) := by rw [upd_ne (Ne.symm nla)]; exact ha1
    have hD : DeskAt CPicture CDesk (off (off H1 l) a) (upd H1 l (.lst (qs.map V.ref))) a i pys := ⟨dx, p, l, qs, ha2, upd_same, fa, fl, sF2, hp.same sFF, ho.same sFF⟩
    generalize off (off H1 l) a = F' at hb1 fl fa sFF sF2 hD
    generalize upd H1 l (.lst (qs.map V.ref)) = H2 at sF2 ha2 hD ⊢
    have hb2 := hb1.same sF2
    have hb0 := hb2
    obtain ⟨dx2, p2, hb2, hR2⟩ := hb2
    refine ⟨_, rfl, b, CPicture, dx2, _, _, rfl, hb2, T.clPicture, T.nD, pf_d _ _, _, _, rfl, rfl, _, rfl, tif (fun z => ?_) (fun z => ?_)⟩
    · have z : 2 ^ 32 ≤ m.d := by
        simp at z
        omega
      refine ⟨(by show 1 ≤ sizeLine; decide), fun q nq => k _ F' q i pys [-9] sFF (hD.same (same_new nq)) fine ?_ upd_same⟩
      rw [hstep]
      exact become_no z
    · have z : ¬ 2 ^ 32 ≤ m.d := by
        simp at z
        omega
      refine ⟨_, rfl, a, dx, _, rfl, ha2, df_no _ _ (by decide +kernel) (by decide +kernel), _, rfl, a, b, F', i, m, pys, rfl, hD, hb1, fine.most, fun H3 hD3 => ?_⟩
      refine ⟨_, rfl, b, m, rfl, hb1.same hD3.keep, fm, fun H4 q s4 n4 e4 => ?_⟩
      refine k H4 F' q m (last16 (pys ++ [i])) [(m.w : Int), (m.h : Int), (m.d : Int)] sFF (hD3.same s4) ⟨⟨fm, by omega⟩, fun o ho => ?_, last16_len fine.most⟩ ?_ e4
      · rcases last16_mem ho with h | h
        · exact fine.olds o h
        · rw [h]
          exact fine.good
      · rw [hstep, become_yes z, last16_rev fine.most]
/-! answer_to_undo -/
def sp_answer_to_undo (C CD : Addr) : Sp := fun vs H Q _ => ∃ (a : Addr) (F : Hp) (i o : Im) (pys : List Im), vs = [.ref a] ∧ DeskAt C CD F H a i (pys ++ [o]) ∧ Fair o ∧
  ∀ H' q, DeskAt C CD F H' a o pys → H' q = some (.lst (iv [o.w, o.h, o.d])) → Q (.ref q) H'
theorem ok_answer_to_undo {f : Addr} {fd : FuncData} (F : Fun K "answer_to_undo" "answer_to_undo" s_answer_to_undo f fd) (T : Txt K mg CPicture CDesk) (f_Desk_undo : Me P w K mg base 1 CDesk "undo" ["self"] (sp_undo CPicture CDesk)) (f_size_and_d : Fn P w K mg base 2 "size_and_d" ["picture"] (sp_size_and_d CPicture)) : FnOk P w K mg base CX0 3 f fd ["desk"] (sp_answer_to_undo CPicture CDesk) := by
  refine F.ok sc_answer_to_undo (fun vs H Q E h => ?_) (fun cdv A outer s H vs Q E hr h => ?_)
  · obtain ⟨_, _, _, _, _, rfl, _⟩ := h
    rfl
  · obtain ⟨a, F, i, o, pys, rfl, hD, g, k⟩ := h
    obtain ⟨a_Desk_undo, d_Desk_undo, G_Desk_undo, m_Desk_undo, b_Desk_undo⟩ := f_Desk_undo
    obtain ⟨a_size_and_d, d_size_and_d, G_size_and_d, m_size_and_d, k_size_and_d, b_size_and_d⟩ := f_size_and_d
    have nd := sc_answer_to_undo.nd
    refine ⟨_, (pss_cons (ps_expr (pe_meth0 (pv 0) T.clDesk m_Desk_undo G_Desk_undo (hr.mono (by decide)) b_Desk_undo .nil pass0)) (pss_one (ps_ret (pe_call G_size_and_d (hr.mono (by decide)) rfl m_size_and_d k_size_and_d b_size_and_d .nil pass0 (pa_cons (pe_fld (pv 0) rfl) pa_nil))))), ?_⟩
    have hD0 := hD
    obtain ⟨dx, p, l, qs, ha, hl, hFa, hFl, hF, hp, ho⟩ := hD
    refine ⟨_, rfl, a, dx, _, rfl, ha, df_no _ _ (by decide +kernel) (by decide +kernel), a, F, i, o, pys, rfl, hD0, fun H1 hD1 => ?_⟩
    have hD2 := hD1
    obtain ⟨dx1, p1, l1, qs1, ha1, hl1, _, _, hF1, hp1, _⟩ := hD1
    refine ⟨_, rfl, a, CDesk, dx1, _, _, rfl, ha1, T.clDesk, T.nP, df_picture _ _, p1, o, rfl, hp1.same hF1, g, fun H2 q s2 n2 e2 => ?_⟩
    exact k H2 q (hD2.same s2) e2
/-! answer_to_call -/
theorem size_no {w h : Nat} (c : sizeI w h ≠ 0) : Ie05.sizeOk w h = false ∧ sizeI w h = -1 := by
  unfold sizeI at *
  split at c
  · exact absurd rfl c
  · rename_i c2
    rw [if_neg c2]
    exact ⟨by simpa using c2, rfl⟩
theorem size_yes {w h : Nat} (c : sizeI w h = 0) : ¬ Ie05.sizeOk w h = false := by
  have := (sizeI_iff w h).mp c
  simp [this]
theorem most_no {n m : Nat} (c : mostI n m ≠ 0) : m < n ∧ mostI n m = -2 := by
  unfold mostI at *
  split at c
  · rename_i c2
    rw [if_pos c2]
    exact ⟨c2, rfl⟩
  · exact absurd rfl c
theorem most_yes {n m : Nat} (c : mostI n m = 0) : ¬ m < n := fun h => by
  unfold mostI at c
  rw [if_pos h] at c
  cases c
theorem size_ref {w h : Nat} (h1 : 0 < w) (h2 : 0 < h) : Ie05.sizeOk w h = false ↔ (12 < w ∨ 12 < h) := by
  unfold Ie05.sizeOk Ie05.MOST
  simp
  omega
/-- a refusal is what the specification answers -/
theorem ref_no {i : Im} {pys : List Im} {cl : Ie05.Call} (f : Fine i pys) (c : refI i pys cl ≠ 0) : Ie05.step (st i pys.reverse) cl = (st i pys.reverse, [refI i pys cl]) := by
  have w1 := f.good.w1
  have h1 := f.good.h1
  cases cl <;> unfold refI at c ⊢ <;> dsimp only at c ⊢
  case picture w h l =>
    unfold pictureI at *
    split at c
    · rename_i c1
      rw [if_pos c1]
      exact picture_no1 c1
    · rename_i c1
      rw [if_neg c1]
      split at c
      · rename_i c2
        rw [if_pos c2]
        exact picture_no2 c1 c2
      · exact absurd rfl c
  case area w h =>
    obtain ⟨e1, e2⟩ := size_no c
    rw [e2]
    refine change_no ?_ _
    exact if_pos e1
  case nearest w h =>
    obtain ⟨e1, e2⟩ := size_no c
    rw [e2]
    refine change_no ?_ _
    exact if_pos e1
  case between w h =>
    obtain ⟨e1, e2⟩ := size_no c
    rw [e2]
    refine change_no ?_ _
    exact if_pos e1
  case turn k =>
    obtain ⟨e1, e2⟩ := most_no c
    rw [e2]
    refine change_no ?_ _
    exact if_pos e1
  case mirror k =>
    obtain ⟨e1, e2⟩ := most_no c
    rw [e2]
    refine change_no ?_ _
    exact if_pos e1
  case cut x y u v =>
    unfold cutI at *
    split at c
    · rename_i c1
      rw [if_pos c1]
      refine change_no ?_ _
      exact if_pos c1
    · exact absurd rfl c
  case border l t r b f =>
    have sr := size_ref (w := l + i.w + r) (h := t + i.h + b) (by omega) (by omega)
    unfold borderI at *
    split at c
    · rename_i c1
      rw [if_pos c1]
      refine change_no ?_ _
      exact if_pos (sr.mpr c1)
    · rename_i c1
      rw [if_neg c1]
      obtain ⟨e1, e2⟩ := most_no c
      rw [e2]
      refine change_no ?_ _
      exact (if_neg (mt sr.mp c1)).trans (if_pos e1)
  case lean k =>
    obtain ⟨e1, e2⟩ := most_no c
    rw [e2]
    refine change_no ?_ _
    exact if_pos e1
  case undo =>
    split at c
    · rename_i c1
      rw [if_pos c1]
      have e : pys = [] := List.length_eq_zero_iff.mp c1
      subst e
      exact undo_no
    · exact absurd rfl c
  case cell x y =>
    unfold cellI at *
    split at c
    · rename_i c1
      rw [if_pos c1]
      exact cell_no c1
    · exact absurd rfl c
  all_goals exact absurd rfl c
/-- the changes -/
def isChange : Ie05.Call → Bool
  | .picture _ _ _ => false
  | .undo => false
  | .now => false
  | .cell _ _ => false
  | .told => false
  | _ => true
theorem ref_yes {i : Im} {pys : List Im} {cl : Ie05.Call} (f : Fine i pys) (c : refI i pys cl = 0) (h : isChange cl = true) : ∃ m, change i cl = .im m := by
  have w1 := f.good.w1
  have h1 := f.good.h1
  cases cl <;> unfold refI at c <;> dsimp only at c
  case picture w h l => cases h
  case undo => cases h
  case now => cases h
  case cell => cases h
  case told => cases h
  case area w h => exact ⟨_, if_neg (size_yes c)⟩
  case nearest w h => exact ⟨_, if_neg (size_yes c)⟩
  case between w h => exact ⟨_, if_neg (size_yes c)⟩
  case turn k => exact ⟨_, if_neg (most_yes c)⟩
  case mirror k => exact ⟨_, if_neg (most_yes c)⟩
  case lean k => exact ⟨_, if_neg (most_yes c)⟩
  case round => exact ⟨_, rfl⟩
  case cut x y u v =>
    unfold cutI at c
    split at c
    · cases c
    · rename_i c1
      exact ⟨_, if_neg c1⟩
  case border l t r b f =>
    have sr := size_ref (w := l + i.w + r) (h := t + i.h + b) (by omega) (by omega)
    unfold borderI at c
    split at c
    · cases c
    · rename_i c1
      exact ⟨_, (if_neg (mt sr.mp c1)).trans (if_neg (most_yes c))⟩
def sp_answer_to_call (C CD : Addr) : Sp := fun vs H Q _ => ∃ (a n : Addr) (c : Nat) (args : List Nat) (F : Hp) (i : Im) (pys : List Im) (cl : Ie05.Call), vs = [.ref a, .int (c : Int), .ref n] ∧ F n = some (.lst (iv args)) ∧ enc cl = c :: args ∧ (∀ x ∈ args, x < 2 ^ 32) ∧ DeskAt C CD F H a i pys ∧ Fine i pys ∧ Post C CD F a i pys cl Q
theorem ok_answer_to_call {f : Addr} {fd : FuncData} (F : Fun K "answer_to_call" "answer_to_call" s_answer_to_call f fd) (T : Txt K mg CPicture CDesk) (f_refusal : Fn P w K mg base 3 "refusal" ["desk", "call", "numbers"] (sp_refusal CPicture CDesk)) (f_answer_to_change : Fn P w K mg base 6 "answer_to_change" ["desk", "call", "numbers"] (sp_answer_to_change CPicture CDesk)) (f_answer_to_picture : Fn P w K mg base 4 "answer_to_picture" ["desk", "w", "h", "cells"] (sp_answer_to_picture CPicture CDesk)) (f_answer_to_undo : Fn P w K mg base 3 "answer_to_undo" ["desk"] (sp_answer_to_undo CPicture CDesk)) (f_answer_to_now : Fn P w K mg base 3 "answer_to_now" ["picture"] (sp_answer_to_now CPicture)) (f_answer_to_cell : Fn P w K mg base 3 "answer_to_cell" ["picture", "x", "y"] (sp_answer_to_cell CPicture)) (f_answer_to_told : Fn P w K mg base 3 "answer_to_told" ["picture"] (sp_answer_to_told CPicture)) (c_GRANTED : Cst mg "GRANTED" (0)) (c_PICTURE : Cst mg "PICTURE" (0)) (c_UNDO : Cst mg "UNDO" (10)) (c_NOW : Cst mg "NOW" (11)) (c_CELL : Cst mg "CELL" (12)) (c_TOLD : Cst mg "TOLD" (13)) : FnOk P w K mg base CX0 7 f fd ["desk", "call", "numbers"] (sp_answer_to_call CPicture CDesk) := by
  refine F.ok sc_answer_to_call (fun vs H Q E h => ?_) (fun cdv A outer s H vs Q E hr h => ?_)
  · obtain ⟨_, _, _, _, _, _, _, _, rfl, _⟩ := h
    rfl
  · obtain ⟨a, n, c, args, F, i, pys, cl, rfl, hn, he, hb, hD, fine, k⟩ := h
    obtain ⟨a_refusal, d_refusal, G_refusal, m_refusal, k_refusal, b_refusal⟩ := f_refusal
    obtain ⟨a_answer_to_change, d_answer_to_change, G_answer_to_change, m_answer_to_change, k_answer_to_change, b_answer_to_change⟩ := f_answer_to_change
    obtain ⟨a_answer_to_picture, d_answer_to_picture, G_answer_to_picture, m_answer_to_picture, k_answer_to_picture, b_answer_to_picture⟩ := f_answer_to_picture
    obtain ⟨a_answer_to_undo, d_answer_to_undo, G_answer_to_undo, m_answer_to_undo, k_answer_to_undo, b_answer_to_undo⟩ := f_answer_to_undo
    obtain ⟨a_answer_to_now, d_answer_to_now, G_answer_to_now, m_answer_to_now, k_answer_to_now, b_answer_to_now⟩ := f_answer_to_now
    obtain ⟨a_answer_to_cell, d_answer_to_cell, G_answer_to_cell, m_answer_to_cell, k_answer_to_cell, b_answer_to_cell⟩ := f_answer_to_cell
    obtain ⟨a_answer_to_told, d_answer_to_told, G_answer_to_told, m_answer_to_told, k_answer_to_told, b_answer_to_told⟩ := f_answer_to_told
    obtain ⟨t_GRANTED, c_GRANTED⟩ := c_GRANTED
    obtain ⟨t_PICTURE, c_PICTURE⟩ := c_PICTURE
    obtain ⟨t_UNDO, c_UNDO⟩ := c_UNDO
    obtain ⟨t_NOW, c_NOW⟩ := c_NOW
    obtain ⟨t_CELL, c_CELL⟩ := c_CELL
    obtain ⟨t_TOLD, c_TOLD⟩ := c_TOLD
    have nd := sc_answer_to_call.nd
    refine ⟨_, (pss_cons (ps_set (i := 3) nd rfl (Or.inl rfl) (pe_call G_refusal (hr.mono (by decide)) rfl m_refusal k_refusal b_refusal .nil pass0 (pa_cons (pv 0) (pa_cons (pv 1) (pa_cons (pv 2) pa_nil))))) (pss_cons (ps_if (pt_cmpR op_ne (pv 3) (pe_glob (v := .int (0)) rfl c_GRANTED ⟨_, rfl⟩) (nomark _)) (pss_one (ps_ret (pe_lst (pa_cons (pv 3) pa_nil)))) pss_nil) (pss_cons (ps_if (pt_cmpR op_eq (pv 1) (pe_glob (v := .int (0)) rfl c_PICTURE ⟨_, rfl⟩) (nomark _)) (pss_one (ps_ret (pe_call G_answer_to_picture (hr.mono (by decide)) rfl m_answer_to_picture k_answer_to_picture b_answer_to_picture .nil pass0 (pa_cons (pv 0) (pa_cons (pe_ix ix_list (pv 2) pe_int (fun _ _ => rfl)) (pa_cons (pe_ix ix_list (pv 2) pe_int (fun _ _ => rfl)) (pa_cons (pe_slice sl_list (pv 2) (po_some pe_int) po_none) pa_nil))))))) pss_nil) (pss_cons (ps_if (pt_cmpR op_eq (pv 1) (pe_glob (v := .int (10)) rfl c_UNDO ⟨_, rfl⟩) (nomark _)) (pss_one (ps_ret (pe_call G_answer_to_undo (hr.mono (by decide)) rfl m_answer_to_undo k_answer_to_undo b_answer_to_undo .nil pass0 (pa_cons (pv 0) pa_nil)))) pss_nil) (pss_cons (ps_if (pt_cmpR op_eq (pv 1) (pe_glob (v := .int (11)) rfl c_NOW ⟨_, rfl⟩) (nomark _)) (pss_one (ps_ret (pe_call G_answer_to_now (hr.mono (by decide)) rfl m_answer_to_now k_answer_to_now b_answer_to_now .nil pass0 (pa_cons (pe_fld (pv 0) rfl) pa_nil)))) pss_nil) (pss_cons (ps_if (pt_cmpR op_eq (pv 1) (pe_glob (v := .int (12)) rfl c_CELL ⟨_, rfl⟩) (nomark _)) (pss_one (ps_ret (pe_call G_answer_to_cell (hr.mono (by decide)) rfl m_answer_to_cell k_answer_to_cell b_answer_to_cell .nil pass0 (pa_cons (pe_fld (pv 0) rfl) (pa_cons (pe_ix ix_list (pv 2) pe_int (fun _ _ => rfl)) (pa_cons (pe_ix ix_list (pv 2) pe_int (fun _ _ => rfl)) pa_nil)))))) pss_nil) (pss_cons (ps_if (pt_cmpR op_eq (pv 1) (pe_glob (v := .int (13)) rfl c_TOLD ⟨_, rfl⟩) (nomark _)) (pss_one (ps_ret (pe_call G_answer_to_told (hr.mono (by decide)) rfl m_answer_to_told k_answer_to_told b_answer_to_told .nil pass0 (pa_cons (pe_fld (pv 0) rfl) pa_nil)))) pss_nil) (pss_one (ps_ret (pe_call G_answer_to_change (hr.mono (by decide)) rfl m_answer_to_change k_answer_to_change b_answer_to_change .nil pass0 (pa_cons (pv 0) (pa_cons (pv 1) (pa_cons (pv 2) pa_nil))))))))))))), ?_⟩
    refine ⟨_, rfl, _, rfl, _, rfl, a, n, c, args, F, i, pys, cl, rfl, hD.keep _ _ hn, he, hb, hD, fine.good, fun H1 s1 => ?_⟩
    have hD := hD.same s1
    have hn1 := hD.keep _ _ hn
    refine ⟨_, rfl, rfl, _, rfl, tif (fun z => ?_) (fun z => ?_)⟩
    · have z : refI i pys cl ≠ 0 := by simpa using z
      exact ⟨_, rfl, (by show 1 ≤ sizeLine; decide), fun q nq => k _ F q i pys [refI i pys cl] (Same.refl _) (hD.same (same_new nq)) fine (ref_no fine z) upd_same⟩
    have z : refI i pys cl = 0 := by simpa using z
    have hD0 := hD
    obtain ⟨dx, p, l, qs, ha, hl, hFa, hFl, hF, hp, ho⟩ := hD
    have hP := hp.same hF
    refine ⟨_, rfl, rfl, _, rfl, tif (fun z0 => ?_) (fun z0 => ?_)⟩
    · have z0 := int_eq z0
      have z0 : c = 0 := by omega
      subst z0
      obtain ⟨w, h, cells, rfl, rfl⟩ := enc0 he
      have z : pictureI w h cells = 0 := z
      unfold pictureI at z
      split at z
      · cases z
      rename_i c1
      split at z
      · cases z
      rename_i c2
      obtain ⟨a1, a2, a3, a4⟩ := size_ok (fun e => c1 (.inl e))
      have hc : cells.length = w * h := by
        by_cases e : cells.length = w * h
        · exact e
        · exact absurd (.inr e) c1
      refine ⟨_, rfl, _, rfl, n, _, _, _, rfl, rfl, SqL.of hn1, at_of (j := 0) rfl rfl, _, rfl, n, _, _, _, rfl, rfl, SqL.of hn1, at_of (j := 1) rfl rfl, _, rfl, _, rfl, n, _, rfl, SqL.of hn1, fun q nq => ?_⟩
      have e : cutV (iv (w :: h :: cells.length :: cells)) (some 3) none = iv cells := cut_from _ 3
      rw [e]
      refine ⟨a, q, w, h, cells, F, i, pys, rfl, upd_same, hD0.same (same_new nq), a2, a4, hc, fun H' F' b sF hD' hb' => ?_⟩
      exact k H' F' b _ [] [(w : Int), (h : Int)] sF hD' ⟨draw_good (drawnR_ok hc) a1 a2 a3 a4, fun o ho => (by cases ho), by simp⟩ (picture_yes c1 c2 (drawnR_flat hc)) hb'
    have z0 := int_ne z0
    refine ⟨_, rfl, rfl, _, rfl, tif (fun z10 => ?_) (fun z10 => ?_)⟩
    · have z10 := int_eq z10
      have z10 : c = 10 := by omega
      subst z10
      obtain ⟨rfl, rfl⟩ := enc10 he
      have z : (if pys.length = 0 then (-4 : Int) else 0) = 0 := z
      split at z
      · cases z
      rename_i c1
      rcases List.eq_nil_or_concat pys with e | ⟨rs, o, e⟩
      · rw [e] at c1
        exact absurd rfl c1
      rw [List.concat_eq_append] at e
      subst e
      have fo := fine.olds o (by simp)
      have fl := fine.most
      refine ⟨_, rfl, a, F, i, o, rs, rfl, hD0, fo.toFair, fun H' q hD' hq => ?_⟩
      refine k H' F q o rs [(o.w : Int), (o.h : Int), (o.d : Int)] (Same.refl _) hD' ⟨fo, fun u hu => fine.olds u (List.mem_append_left _ hu), by simp at fl; omega⟩ ?_ hq
      rw [List.reverse_append]
      exact undo_yes
    have z10 := int_ne z10
    refine ⟨_, rfl, rfl, _, rfl, tif (fun z11 => ?_) (fun z11 => ?_)⟩
    · have z11 := int_eq z11
      have z11 : c = 11 := by omega
      subst z11
      obtain ⟨rfl, rfl⟩ := enc11 he
      refine ⟨_, rfl, a, CDesk, dx, _, _, rfl, ha, T.clDesk, T.nP, df_picture _ _, p, i, rfl, hP, fine.good.toFair, fun H' q s' hq => ?_⟩
      refine k H' F q i pys _ (Same.refl _) (hD0.same s') fine now_is ?_
      rw [hq, iv_ci]
    have z11 := int_ne z11
    refine ⟨_, rfl, rfl, _, rfl, tif (fun z12 => ?_) (fun z12 => ?_)⟩
    · have z12 := int_eq z12
      have z12 : c = 12 := by omega
      subst z12
      obtain ⟨x, y, rfl, rfl⟩ := enc12 he
      have z : cellI i.w i.h x y = 0 := z
      unfold cellI at z
      split at z
      · cases z
      rename_i c1
      refine ⟨_, rfl, a, CDesk, dx, _, _, rfl, ha, T.clDesk, T.nP, df_picture _ _, _, rfl, n, _, _, _, rfl, rfl, SqL.of hn1, at_of (j := 0) rfl rfl, _, rfl, n, _, _, _, rfl, rfl, SqL.of hn1, at_of (j := 1) rfl rfl, p, x, y, i, rfl, hP, fine.good, by omega, by omega, fun H' q s' hq => ?_⟩
      refine k H' F q i pys _ (Same.refl _) (hD0.same s') fine (cell_yes fine.good c1) ?_
      rw [hq, iv_ci]
      rfl
    have z12 := int_ne z12
    refine ⟨_, rfl, rfl, _, rfl, tif (fun z13 => ?_) (fun z13 => ?_)⟩
    · have z13 := int_eq z13
      have z13 : c = 13 := by omega
      subst z13
      obtain ⟨rfl, rfl⟩ := enc13 he
      refine ⟨_, rfl, a, CDesk, dx, _, _, rfl, ha, T.clDesk, T.nP, df_picture _ _, p, i, rfl, hP, fine.good, fun H' q s' hq => ?_⟩
      refine k H' F q i pys _ (Same.refl _) (hD0.same s') fine told_is ?_
      rw [hq, iv_ci, Nat.mul_assoc]
      rfl
    have z13 := int_ne z13
    have hch : isChange cl = true := by
      cases cl <;> simp [enc] at he <;> first | rfl | (exfalso; omega)
    obtain ⟨m, hm⟩ := ref_yes fine z hch
    exact ⟨_, rfl, _, rfl, _, rfl, a, n, c, args, F, i, m, pys, cl, rfl, hn, he, hD0, fine, hm, k⟩
end
end Pa

set_option Elab.async false
set_option maxRecDepth 100000
set_option maxHeartbeats 4000000
set_option linter.all false
namespace Pa
open PySem PySem.Spec PyProof.Rows L2
section
variable {P : Program} {w : World} {K : PySem.W.Frag} {mg : Str → Option Value} {base : Heap} {CPicture CDesk : Addr}
/-! end_of_call -/
def COUNTS : List Int := [3, 2, 2, 2, 1, 1, 4, 5, 1, 0, 0, 0, 2, 0]
theorem counts_is (cl : Ie05.Call) : ∃ (c : Nat) (args : List Nat) (k : Nat), enc cl = c :: args ∧ (COUNTS.map V.int)[c]? = some (.int (k : Int)) ∧ ((c ≠ 0 ∧ args.length = k) ∨ (c = 0 ∧ k = 3 ∧ ∃ w h cells, args = w :: h :: cells.length :: cells)) := by
  cases cl
  case picture w h l => exact ⟨0, _, 3, rfl, rfl, .inr ⟨rfl, rfl, _, _, _, rfl⟩⟩
  case area w h => exact ⟨1, _, 2, rfl, rfl, .inl ⟨by decide, rfl⟩⟩
  case nearest w h => exact ⟨2, _, 2, rfl, rfl, .inl ⟨by decide, rfl⟩⟩
  case between w h => exact ⟨3, _, 2, rfl, rfl, .inl ⟨by decide, rfl⟩⟩
  case turn k => exact ⟨4, _, 1, rfl, rfl, .inl ⟨by decide, rfl⟩⟩
  case mirror k => exact ⟨5, _, 1, rfl, rfl, .inl ⟨by decide, rfl⟩⟩
  case cut x y u v => exact ⟨6, _, 4, rfl, rfl, .inl ⟨by decide, rfl⟩⟩
  case border l t r b f => exact ⟨7, _, 5, rfl, rfl, .inl ⟨by decide, rfl⟩⟩
  case lean k => exact ⟨8, _, 1, rfl, rfl, .inl ⟨by decide, rfl⟩⟩
  case round => exact ⟨9, _, 0, rfl, rfl, .inl ⟨by decide, rfl⟩⟩
  case undo => exact ⟨10, _, 0, rfl, rfl, .inl ⟨by decide, rfl⟩⟩
  case now => exact ⟨11, _, 0, rfl, rfl, .inl ⟨by decide, rfl⟩⟩
  case cell x y => exact ⟨12, _, 2, rfl, rfl, .inl ⟨by decide, rfl⟩⟩
  case told => exact ⟨13, _, 0, rfl, rfl, .inl ⟨by decide, rfl⟩⟩
def sp_end_of_call (K : PySem.W.Frag) : Sp := fun vs H Q _ => ∃ (a : Addr) (l t : List Nat) (place : Nat) (cl : Ie05.Call), vs = [.ref a, .int (place : Int)] ∧ SqL K H a (iv l) ∧ l.drop place = enc cl ++ t ∧ Q (.int ((place + (enc cl).length : Nat) : Int)) H
theorem drop_get {l q : List Nat} {n : Nat} (h : l.drop n = q) (j : Nat) : l[n + j]? = q[j]? := by
  rw [← h, List.getElem?_drop]
theorem ok_end_of_call {f : Addr} {fd : FuncData} (F : Fun K "end_of_call" "end_of_call" s_end_of_call f fd) (T : Txt K mg CPicture CDesk) (c_NUMBER_COUNTS : Tup K mg "NUMBER_COUNTS" [3, 2, 2, 2, 1, 1, 4, 5, 1, 0, 0, 0, 2, 0]) (c_PICTURE : Cst mg "PICTURE" (0)) : FnOk P w K mg base CX0 1 f fd ["calls", "place"] (sp_end_of_call K) := by
  refine F.ok sc_end_of_call (fun vs H Q E h => ?_) (fun cdv A outer s H vs Q E hr h => ?_)
  · obtain ⟨a, l, t, place, cl, rfl, hs, hd, k⟩ := h
    rfl
  · obtain ⟨a, l, t, place, cl, rfl, hs, hd, k⟩ := h
    obtain ⟨a_NUMBER_COUNTS, c_NUMBER_COUNTS, h_NUMBER_COUNTS⟩ := c_NUMBER_COUNTS
    obtain ⟨t_PICTURE, c_PICTURE⟩ := c_PICTURE
    have nd := sc_end_of_call.nd
    refine ⟨_, (pss_cons (ps_set (i := 2) nd rfl (Or.inl rfl) (pe_op op_add (pe_op op_add (pv 1) pe_int) (pe_ix ix_tup (pe_glob (v := .ref a_NUMBER_COUNTS) rfl c_NUMBER_COUNTS rfl) (pe_ix ix_list (pv 0) (pv 1) (fun _ _ => rfl)) (fun _ _ => rfl)))) (pss_cons (ps_if (pt_cmpR op_eq (pe_ix ix_list (pv 0) (pv 1) (fun _ _ => rfl)) (pe_glob (v := .int (0)) rfl c_PICTURE ⟨_, rfl⟩) (nomark _)) (pss_one (ps_ret (pe_op op_add (pv 2) (pe_ix ix_list (pv 0) (pe_op op_sub (pv 2) pe_int) (fun _ _ => rfl))))) pss_nil) (pss_one (ps_ret (pv 2))))), ?_⟩
    obtain ⟨c, args, m, he, hcnt, hcase⟩ := counts_is cl
    rw [he] at hd k
    have g0 : (iv l)[place]? = some (.int (c : Int)) := iv_get (drop_get hd 0)
    refine ⟨_, rfl, _, _, rfl, rfl, _, rfl, _, rfl, a, _, _, _, rfl, rfl, hs, at_of (j := place) rfl g0, a_NUMBER_COUNTS, COUNTS.map V.int, _, _, rfl, rfl, .inr h_NUMBER_COUNTS, at_of (j := c) rfl hcnt, _, _, rfl, rfl, ?_⟩
    refine ⟨_, rfl, _, rfl, a, _, _, _, rfl, rfl, hs, at_of (j := place) rfl g0, rfl, _, rfl, tif (fun z => ?_) (fun z => ?_)⟩
    · have z := int_eq z
      have z : c = 0 := by omega
      rcases hcase with ⟨c1, _⟩ | ⟨_, rfl, w, h, cells, rfl⟩
      · exact absurd z c1
      have g3 : (iv l)[place + 3]? = some (.int (cells.length : Int)) := iv_get (drop_get hd 3)
      refine ⟨_, rfl, _, rfl, _, rfl, _, _, rfl, rfl, a, _, _, _, rfl, rfl, hs, at_of (j := place + 3) (by simp; omega) g3, _, _, rfl, rfl, ?_⟩
      have e : (place : Int) + 1 + ((3 : Nat) : Int) + (cells.length : Int) = ((place + (c :: w :: h :: cells.length :: cells).length : Nat) : Int) := by
        simp only [List.length_cons]
        omega
      dsimp only
      rw [e]
      exact k
    · have z := int_ne z
      rcases hcase with ⟨_, c2⟩ | ⟨c1, _⟩
      · have e : (place : Int) + 1 + (m : Int) = ((place + (c :: args).length : Nat) : Int) := by
          rw [List.length_cons, c2]
          omega
        rw [← e] at k
        exact ⟨_, rfl, k⟩
      · exact absurd (by omega) z
end
end Pa

set_option Elab.async false
set_option maxRecDepth 100000
set_option maxHeartbeats 4000000
set_option linter.all false
namespace Pa
open PySem PySem.Spec PyProof.Rows L2
section
variable {P : Program} {w : World} {K : PySem.W.Frag} {mg : Str → Option Value} {base : Heap} {CPicture CDesk : Addr}
/-! answers -/
theorem asked_short {ns : List Int} (h : PyIe05.answers_asked ns = true) : (PyIe05.answers ns).length ≤ 10000000 := by
  unfold PyIe05.answers_asked at h
  split at h
  · cases h
  · simp only [Bool.and_eq_true] at h
    have := h.2
    unfold PyFlat.short at this
    simpa using this
theorem upd_off {F : Hp} {g : Addr} {o : HO} : upd (off F g) g o = upd F g o := by
  funext x
  unfold upd off
  split
  · rfl
  · rfl
/-- a new object, also among what stays -/
theorem DeskAt.fresh {C CD : Addr} {F H : Hp} {a n : Addr} {i : Im} {pys : List Im} (h : DeskAt C CD F H a i pys) (hn : H n = none) (o : HO) : DeskAt C CD (upd F n o) (upd H n o) a i pys := by
  obtain ⟨dx, p, l, qs, h1, h2, h3, h4, h5, h6, h7⟩ := h
  have na := ne_of_none h1 hn
  have nl := ne_of_none h2 hn
  have s : Same F (upd F n o) := same_new (h5.free hn)
  refine ⟨dx, p, l, qs, by rw [upd_ne na]; exact h1, by rw [upd_ne nl]; exact h2, by rw [upd_ne na]; exact h3, by rw [upd_ne nl]; exact h4, fun b u e => ?_, h6.same s, h7.same s⟩
  by_cases z : b = n
  · subst z
    rw [upd_same] at e ⊢
    exact e
  · rw [upd_ne z] at e ⊢
    exact h5 _ _ e
theorem PicAt.relock {C : Addr} {F : Hp} {g b : Addr} {o : Obj} {u v : HO} {d : Nat} {rows : Rows} (hg : F g = some (.frz o u)) (h : PicAt C F b d rows) : PicAt C (upd F g v) b d rows := by
  refine h.move (fun x xs e => ?_) (fun x C2 dx2 n q e => ?_)
  · rw [upd_ne (ne_of e hg (by intro z; cases z))]
    exact e
  · rw [upd_ne (ne_of e hg (by intro z; cases z))]
    exact e
/-- what was locked is another now -/
theorem DeskAt.relock {C CD : Addr} {F H : Hp} {a g : Addr} {i : Im} {pys : List Im} {o : Obj} {u : HO} (h : DeskAt C CD F H a i pys) (hg : F g = some (.frz o u)) (v : HO) : DeskAt C CD (upd F g v) (upd H g v) a i pys := by
  obtain ⟨dx, p, l, qs, h1, h2, h3, h4, h5, h6, h7⟩ := h
  have na : a ≠ g := fun z => by rw [z, hg] at h3; cases h3
  have nl : l ≠ g := fun z => by rw [z, hg] at h4; cases h4
  refine ⟨dx, p, l, qs, by rw [upd_ne na]; exact h1, by rw [upd_ne nl]; exact h2, by rw [upd_ne na]; exact h3, by rw [upd_ne nl]; exact h4, fun b w e => ?_, h6.relock hg, h7.1, fun k q z hq hz => (h7.2 k q z hq hz).relock hg⟩
  by_cases z : b = g
  · subst z
    rw [upd_same] at e ⊢
    exact e
  · rw [upd_ne z] at e ⊢
    exact h5 _ _ e
/-- the desk off the list of answers at g -/
def DeskOff (C CD : Addr) (g : Addr) (F H : Hp) (a : Addr) (i : Im) (pys : List Im) : Prop := F g = none ∧ ∀ o, DeskAt C CD (upd F g o) (upd H g o) a i pys
theorem DeskOff.keep {C CD g : Addr} {F H : Hp} {a : Addr} {i : Im} {pys : List Im} (h : DeskOff C CD g F H a i pys) : Same F H := fun b u e => by
  have n : b ≠ g := ne_of_none e h.1
  have s := (h.2 (.lst [])).keep b u (by rw [upd_ne n]; exact e)
  rw [upd_ne n] at s
  exact s
theorem iv_part_of {l args t : List Nat} {place c : Nat} (h : l.drop place = (c :: args) ++ t) : cutV (iv l) (some ((place : Int) + 1)) (some ((place + (c :: args).length : Nat) : Int)) = iv args := by
  have e1 : (place : Int) + 1 = ((place + 1 : Nat) : Int) := by omega
  have e2 : ((place + (c :: args).length : Nat) : Int) = ((place + 1 : Nat) : Int) + (args.length : Int) := by
    rw [List.length_cons]
    omega
  rw [e1, e2, cut_part, iv_part]
  congr 1
  unfold part
  rw [List.drop_take]
  have e3 : l.drop (place + 1) = args ++ t := by
    rw [← List.drop_drop, h]
    rfl
  have e4 : place + 1 + args.length - (place + 1) = args.length := by omega
  rw [e3, e4, List.take_left]
theorem ok_answers {f : Addr} {fd : FuncData} (F : Fun K "answers" "answers" s_answers f fd) (T : Txt K mg CPicture CDesk) (f_Desk_init : Ma P w K mg base 3 CDesk ["self"] (sp_Desk CPicture CDesk)) (f_end_of_call : Fn P w K mg base 1 "end_of_call" ["calls", "place"] (sp_end_of_call K)) (f_answer_to_call : Fn P w K mg base 7 "answer_to_call" ["desk", "call", "numbers"] (sp_answer_to_call CPicture CDesk)) : FnOk P w K mg base CX0 8 f fd ["calls"] (sp_answers K) := by
  refine F.ok sc_answers (fun vs H Q E h => ?_) (fun cdv A outer s H vs Q E hr h => ?_)
  · obtain ⟨_, _, rfl, _⟩ := h
    rfl
  · obtain ⟨a, ns, rfl, hs, hlen, hbd, hask, k⟩ := h
    obtain ⟨a_Desk_init, d_Desk_init, G_Desk_init, M_Desk_init, b_Desk_init⟩ := f_Desk_init
    obtain ⟨a_end_of_call, d_end_of_call, G_end_of_call, m_end_of_call, k_end_of_call, b_end_of_call⟩ := f_end_of_call
    obtain ⟨a_answer_to_call, d_answer_to_call, G_answer_to_call, m_answer_to_call, k_answer_to_call, b_answer_to_call⟩ := f_answer_to_call
    have nd := sc_answers.nd
    refine ⟨_, (pss_cons (ps_set (i := 1) nd rfl (Or.inl rfl) (pe_make0 M_Desk_init G_Desk_init (hr.mono (by decide)) rfl T.gDesk b_Desk_init .nil pass0)) (pss_cons (ps_set (i := 2) nd rfl (Or.inl rfl) (pe_lst pa_nil)) (pss_cons (ps_set (i := 3) nd rfl (Or.inl rfl) pe_int) (pss_cons (ps_while PassesOwn.never (pt_cmpR op_lt (pv 3) (pe_callB call_len_seq (by rfl) T.len PySem.boot_len (pa_cons (pv 0) pa_nil)) (nomark _)) (pss_cons (ps_set (i := 4) nd rfl (Or.inl rfl) (pe_call G_end_of_call (hr.mono (by decide)) rfl m_end_of_call k_end_of_call b_end_of_call .nil pass0 (pa_cons (pv 0) (pa_cons (pv 3) pa_nil)))) (pss_cons (ps_lock (ps_set (i := 5) nd rfl (Or.inl rfl) (pe_call G_answer_to_call (hr.mono (by decide)) rfl m_answer_to_call k_answer_to_call b_answer_to_call .nil pass0 (pa_cons (pv 1) (pa_cons (pe_ix ix_list (pv 0) (pv 3) (fun _ _ => rfl)) (pa_cons (pe_slice sl_list (pv 0) (po_some (pe_op op_add (pv 3) pe_int)) (po_some (pv 4))) pa_nil)))))) (pss_cons (ps_expr (pe_bm PySem.F.plainAttrs_list PySem.F.slot_list_append PySem.F.type_list_append mt_append (pv 2) (pa_cons (pe_callB call_len_seq (by rfl) T.len PySem.boot_len (pa_cons (pv 5) pa_nil)) pa_nil))) (pss_cons (ps_expr (pe_bm PySem.F.plainAttrs_list PySem.F.slot_list_extend PySem.F.type_list_extend mt_extend (pv 2) (pa_cons (pv 5) pa_nil))) (pss_one (ps_set (i := 3) nd rfl (Or.inl rfl) (pv 4)))))))) (pss_one (ps_ret (pv 2))))))), ?_⟩
    have hns : ns = ci (ns.map Int.toNat) := ci_of ns fun x hx => (hbd x hx).1
    have hshort := asked_short hask
    generalize hl : ns.map Int.toNat = l at hns
    have hb : ∀ x ∈ l, x < 2 ^ 32 := by
      intro x hx
      rw [← hl] at hx
      obtain ⟨y, hy, rfl⟩ := List.mem_map.mp hx
      have := hbd y hy
      omega
    subst hns
    obtain ⟨raw, hraw, _, hans⟩ := asked_raw hask
    have hs : SqL K H a (iv l) := by
      rw [iv_ci]
      exact hs
    -- desk
    intro x dx nx ndx nex
    refine ⟨x, dx, H, rfl, upd_same, same_newer (same_new ndx) (by rw [upd_ne (Ne.symm nex)]; exact nx), nx, fun H1 F sF hD => ⟨rfl, ?_⟩⟩
    -- given
    refine ⟨(by show 0 ≤ sizeLine; decide), fun g ng => ?_⟩
    -- the loop
    refine while_by (fun σ H' => ∃ (F : Hp) (i : Im) (pys : List Im) (place : Nat) (out : List Int) (raw : List (List (List Int))) (v4 v5 : Option V),
        σ = [some (.ref a), some (.ref x), some (.ref g), some (.int (place : Int)), v4, v5] ∧ H' g = some (.lst (out.map V.int)) ∧ DeskOff CPicture CDesk g F H' x i pys ∧ Fine i pys ∧ SqL K F a (iv l) ∧ Rest (l.drop place) raw ∧ place ≤ l.length ∧ out ++ due (st i pys.reverse) raw = PyIe05.answers (ci l))
      (fun σ _ => match σ with | [_, _, _, some (.int i), _, _] => l.length - i.toNat | _ => 0) ?_ ?_ ?_
    · refine ⟨F, im0, [], 0, [], raw, none, none, rfl, upd_same, ⟨hD.keep.free ng, fun o => ?_⟩, ?_, sF.seq hs, hraw, Nat.zero_le _, hans.symm⟩
      · rw [upd_upd]
        exact hD.fresh ng o
      · refine ⟨draw_good (w := 1) (h := 1) (rows := [[0]]) ⟨rfl, fun r hr => ?_⟩ (by decide) (by decide) (by decide) (by decide), fun o ho => (by cases ho), by simp⟩
        rw [List.mem_singleton.mp hr]
        rfl
    · rintro σ H' ⟨F, i, pys, place, out, raw, v4, v5, rfl, hg, hO, fine, hsF, hrest, hple, heq⟩
      have hs' := hO.keep.seq hsF
      refine ⟨_, rfl, _, rfl, a, _, rfl, .inl hs', _, _, rfl, rfl, _, rfl, tif (fun z => ?_) (fun z => ?_)⟩
      · have z : place < l.length := by
          rw [iv_len] at z
          simp at z
          exact z
        obtain ⟨p, r, hpr⟩ : ∃ p r, l.drop place = p :: r := by
          cases e : l.drop place with
          | nil =>
            have := List.drop_eq_nil_iff.mp e
            omega
          | cons p r => exact ⟨p, r, rfl⟩
        rw [hpr] at hrest
        obtain ⟨cl, c0, raw', t, rfl, e1, hrest', hst⟩ := turn_of (fun y hy => hb y (List.mem_of_mem_drop (by rw [hpr]; exact hy))) hrest
        obtain ⟨c, args, _, he, _, _⟩ := counts_is cl
        have hdr : l.drop place = enc cl ++ t := hpr.trans e1
        have hdr2 := hdr
        rw [he] at hdr2
        have g0 : (iv l)[place]? = some (.int (c : Int)) := iv_get (drop_get hdr2 0)
        have hargs : ∀ y ∈ args, y < 2 ^ 32 := fun y hy => hb y (List.mem_of_mem_drop (i := place) (by
          rw [hdr2]
          exact List.mem_append_left _ (List.mem_cons_of_mem _ hy)))
        have hlast : l.length = place + (enc cl).length + t.length := by
          have := congrArg List.length hdr
          rw [List.length_drop, List.length_append] at this
          omega
        -- end
        refine ⟨_, rfl, _, rfl, a, l, t, place, cl, rfl, hs', hdr, ?_⟩
        -- answered, while the answers so far are locked
        refine ⟨g, _, hg, trivial, fun od => ?_⟩
        have hDl := hO.2 (.frz od (.lst (out.map V.int)))
        have hsl : SqL K (upd H' g (.frz od (.lst (out.map V.int)))) a (iv l) := (same_off hO.keep hO.1).seq hsF
        refine ⟨_, rfl, _, rfl, _, rfl, a, _, _, _, rfl, rfl, hsl, at_of (j := place) rfl g0, _, rfl, _, rfl, _, _, rfl, rfl, _, rfl, _, rfl, _, rfl, a, _, rfl, hsl, fun n nn => ?_⟩
        have ecut : cutV (iv l) (some ((place : Int) + 1)) (some ((place + (enc cl).length : Nat) : Int)) = iv args := by
          rw [he]
          exact iv_part_of hdr2
        dsimp only
        rw [ecut]
        have ngn : g ≠ n := ne_of_none upd_same nn
        have Fn : F n = none := by
          have := (same_off (o := .frz od (.lst (out.map V.int))) hO.keep hO.1).free nn
          exact this
        refine ⟨x, n, c, args, upd (upd F g (.frz od (.lst (out.map V.int)))) n (.lst (iv args)), i, pys, cl, rfl, upd_same, he, hargs, hDl.fresh nn _, fine, fun H2 F2 q i2 pys2 ans sF2 hD2 fine2 hstep hq => ?_⟩
        have hg2 : F2 g = some (.frz od (.lst (out.map V.int))) := sF2 _ _ (by rw [upd_ne ngn, upd_same])
        have hgH : H2 g = some (.frz od (.lst (out.map V.int))) := hD2.keep _ _ hg2
        have nqg : q ≠ g := ne_of hq hgH (by intro z; cases z)
        have hdue := due_cons (st i pys.reverse) c0 raw' hst
        rw [hstep] at hdue
        dsimp only at hdue
        rw [hdue] at heq
        have hsize : out.length + 1 + ans.length ≤ 10000000 := by
          have e := congrArg List.length heq
          rw [List.length_append, List.length_cons, List.length_append] at e
          omega
        have sz : 10000000 < sizeLine := by decide
        refine ⟨hgH, ?_⟩
        -- given.append(len(answered))
        refine ⟨_, rfl, .inl ⟨rfl, _, SqL.of upd_same⟩, _, rfl, q, _, rfl, .inl (SqL.of (by rw [upd_ne nqg]; exact hq)), g, _, _, rfl, rfl, upd_same, by rw [List.length_map]; omega, ?_⟩
        -- given.extend(answered)
        refine ⟨_, rfl, .inl ⟨rfl, _, SqL.of upd_same⟩, _, rfl, g, q, _, _, rfl, rfl, upd_same, by rw [upd_ne nqg, upd_ne nqg]; exact hq, ?_, ?_⟩
        · simp only [List.length_append, List.length_map, List.length_singleton]
          omega
        -- place = end
        refine ⟨_, rfl, ⟨off F2 g, i2, pys2, place + (enc cl).length, out ++ [(ans.length : Int)] ++ ans, raw', _, _, rfl, ?_, ⟨off_self _ _, fun o => ?_⟩, fine2, ?_, ?_, by omega, ?_⟩, ?_⟩
        · rw [upd_same]
          simp
        · rw [upd_off, upd_upd, upd_upd, upd_upd]
          exact hD2.relock hg2 o
        · refine Same.seq (same_into (Same.trans ?_ sF2) hO.1) hsF
          intro b u e
          rw [upd_ne (ne_of_none e Fn), upd_ne (ne_of_none e hO.1)]
          exact e
        · rw [← List.drop_drop, hdr, List.drop_left]
          exact hrest'
        · rw [← heq]
          simp
        · show l.length - ((place + (enc cl).length : Nat) : Int).toNat < l.length - ((place : Nat) : Int).toNat
          rw [Int.toNat_natCast, Int.toNat_natCast, he, List.length_cons]
          omega
      · have z : l.length ≤ place := by
          rw [iv_len] at z
          simp at z
          exact z
        rw [List.drop_eq_nil_of_le z] at hrest
        have e := rest_nil hrest
        subst e
        rw [due_nil, List.append_nil] at heq
        rw [heq] at hg
        exact ⟨_, rfl, k H' g hg⟩
    · rintro σ H Q Q' h ⟨v, hv, v2, hv2, p, ys, e, o, i, j, e1, e2, b, hb, q⟩
      exact ⟨v, hv, v2, hv2, p, ys, e, o, i, j, e1, e2, b, hb, h _ _ q⟩
end
end Pa

set_option Elab.async false
set_option maxRecDepth 100000
set_option maxHeartbeats 8000000
set_option linter.all false
namespace Pa
open PySem PySem.Spec PyProof.Rows L2
open PySem.W (Codec)
theorem all_mk {P : Program} {w : World} {K : PySem.W.Frag} {h : Heap} {mg : Str → Option Value} {fa CPicture CDesk : Addr} (X : K.In h) (G : h.Ns mainGlobals mg) (hfa : mg "answers" = some (.ref fa))
    {fPicture_init : Addr} {odPicture_init anPicture_init : Option Addr} {slPicture_init : Array (Option Value)} {ocPicture_init kVPicture_init dcPicture_init pmPicture_init cdPicture_init ctPicture_init : Value}
    {fPicture_width : Addr} {odPicture_width anPicture_width : Option Addr} {slPicture_width : Array (Option Value)} {ocPicture_width kVPicture_width dcPicture_width pmPicture_width cdPicture_width ctPicture_width : Value}
    {fPicture_height : Addr} {odPicture_height anPicture_height : Option Addr} {slPicture_height : Array (Option Value)} {ocPicture_height kVPicture_height dcPicture_height pmPicture_height cdPicture_height ctPicture_height : Value}
    {fDesk_init : Addr} {odDesk_init anDesk_init : Option Addr} {slDesk_init : Array (Option Value)} {ocDesk_init kVDesk_init dcDesk_init pmDesk_init cdDesk_init ctDesk_init : Value}
    {fDesk_begin : Addr} {odDesk_begin anDesk_begin : Option Addr} {slDesk_begin : Array (Option Value)} {ocDesk_begin kVDesk_begin dcDesk_begin pmDesk_begin cdDesk_begin ctDesk_begin : Value}
    {fDesk_change : Addr} {odDesk_change anDesk_change : Option Addr} {slDesk_change : Array (Option Value)} {ocDesk_change kVDesk_change dcDesk_change pmDesk_change cdDesk_change ctDesk_change : Value}
    {fDesk_undo : Addr} {odDesk_undo anDesk_undo : Option Addr} {slDesk_undo : Array (Option Value)} {ocDesk_undo kVDesk_undo dcDesk_undo pmDesk_undo cdDesk_undo ctDesk_undo : Value}
    {fcommon_divisor : Addr} {odcommon_divisor ancommon_divisor : Option Addr} {slcommon_divisor : Array (Option Value)} {occommon_divisor kVcommon_divisor dccommon_divisor pmcommon_divisor cdcommon_divisor ctcommon_divisor : Value}
    {fnearest_whole : Addr} {odnearest_whole annearest_whole : Option Addr} {slnearest_whole : Array (Option Value)} {ocnearest_whole kVnearest_whole dcnearest_whole pmnearest_whole cdnearest_whole ctnearest_whole : Value}
    {fdivided : Addr} {oddivided andivided : Option Addr} {sldivided : Array (Option Value)} {ocdivided kVdivided dcdivided pmdivided cddivided ctdivided : Value}
    {fin_lowest_terms : Addr} {odin_lowest_terms anin_lowest_terms : Option Addr} {slin_lowest_terms : Array (Option Value)} {ocin_lowest_terms kVin_lowest_terms dcin_lowest_terms pmin_lowest_terms cdin_lowest_terms ctin_lowest_terms : Value}
    {fcolumn : Addr} {odcolumn ancolumn : Option Addr} {slcolumn : Array (Option Value)} {occolumn kVcolumn dccolumn pmcolumn cdcolumn ctcolumn : Value}
    {fcolumns : Addr} {odcolumns ancolumns : Option Addr} {slcolumns : Array (Option Value)} {occolumns kVcolumns dccolumns pmcolumns cdcolumns ctcolumns : Value}
    {fbackwards : Addr} {odbackwards anbackwards : Option Addr} {slbackwards : Array (Option Value)} {ocbackwards kVbackwards dcbackwards pmbackwards cdbackwards ctbackwards : Value}
    {farea_weights : Addr} {odarea_weights anarea_weights : Option Addr} {slarea_weights : Array (Option Value)} {ocarea_weights kVarea_weights dcarea_weights pmarea_weights cdarea_weights ctarea_weights : Value}
    {fnearest_weights : Addr} {odnearest_weights annearest_weights : Option Addr} {slnearest_weights : Array (Option Value)} {ocnearest_weights kVnearest_weights dcnearest_weights pmnearest_weights cdnearest_weights ctnearest_weights : Value}
    {fbetween_weights : Addr} {odbetween_weights anbetween_weights : Option Addr} {slbetween_weights : Array (Option Value)} {ocbetween_weights kVbetween_weights dcbetween_weights pmbetween_weights cdbetween_weights ctbetween_weights : Value}
    {fweights_of_one : Addr} {odweights_of_one anweights_of_one : Option Addr} {slweights_of_one : Array (Option Value)} {ocweights_of_one kVweights_of_one dcweights_of_one pmweights_of_one cdweights_of_one ctweights_of_one : Value}
    {fweights_of_all : Addr} {odweights_of_all anweights_of_all : Option Addr} {slweights_of_all : Array (Option Value)} {ocweights_of_all kVweights_of_all dcweights_of_all pmweights_of_all cdweights_of_all ctweights_of_all : Value}
    {fweighed : Addr} {odweighed anweighed : Option Addr} {slweighed : Array (Option Value)} {ocweighed kVweighed dcweighed pmweighed cdweighed ctweighed : Value}
    {frow_resized : Addr} {odrow_resized anrow_resized : Option Addr} {slrow_resized : Array (Option Value)} {ocrow_resized kVrow_resized dcrow_resized pmrow_resized cdrow_resized ctrow_resized : Value}
    {frows_resized : Addr} {odrows_resized anrows_resized : Option Addr} {slrows_resized : Array (Option Value)} {ocrows_resized kVrows_resized dcrows_resized pmrows_resized cdrows_resized ctrows_resized : Value}
    {fresized : Addr} {odresized anresized : Option Addr} {slresized : Array (Option Value)} {ocresized kVresized dcresized pmresized cdresized ctresized : Value}
    {fturned : Addr} {odturned anturned : Option Addr} {slturned : Array (Option Value)} {octurned kVturned dcturned pmturned cdturned ctturned : Value}
    {fmirrored : Addr} {odmirrored anmirrored : Option Addr} {slmirrored : Array (Option Value)} {ocmirrored kVmirrored dcmirrored pmmirrored cdmirrored ctmirrored : Value}
    {fcut_out : Addr} {odcut_out ancut_out : Option Addr} {slcut_out : Array (Option Value)} {occut_out kVcut_out dccut_out pmcut_out cdcut_out ctcut_out : Value}
    {flines_of : Addr} {odlines_of anlines_of : Option Addr} {sllines_of : Array (Option Value)} {oclines_of kVlines_of dclines_of pmlines_of cdlines_of ctlines_of : Value}
    {fbordered : Addr} {odbordered anbordered : Option Addr} {slbordered : Array (Option Value)} {ocbordered kVbordered dcbordered pmbordered cdbordered ctbordered : Value}
    {fmoved_on : Addr} {odmoved_on anmoved_on : Option Addr} {slmoved_on : Array (Option Value)} {ocmoved_on kVmoved_on dcmoved_on pmmoved_on cdmoved_on ctmoved_on : Value}
    {fleaned : Addr} {odleaned anleaned : Option Addr} {slleaned : Array (Option Value)} {ocleaned kVleaned dcleaned pmleaned cdleaned ctleaned : Value}
    {frow_rounded : Addr} {odrow_rounded anrow_rounded : Option Addr} {slrow_rounded : Array (Option Value)} {ocrow_rounded kVrow_rounded dcrow_rounded pmrow_rounded cdrow_rounded ctrow_rounded : Value}
    {frounded : Addr} {odrounded anrounded : Option Addr} {slrounded : Array (Option Value)} {ocrounded kVrounded dcrounded pmrounded cdrounded ctrounded : Value}
    {fdrawn : Addr} {oddrawn andrawn : Option Addr} {sldrawn : Array (Option Value)} {ocdrawn kVdrawn dcdrawn pmdrawn cddrawn ctdrawn : Value}
    {fsize_refusal : Addr} {odsize_refusal ansize_refusal : Option Addr} {slsize_refusal : Array (Option Value)} {ocsize_refusal kVsize_refusal dcsize_refusal pmsize_refusal cdsize_refusal ctsize_refusal : Value}
    {fpicture_refusal : Addr} {odpicture_refusal anpicture_refusal : Option Addr} {slpicture_refusal : Array (Option Value)} {ocpicture_refusal kVpicture_refusal dcpicture_refusal pmpicture_refusal cdpicture_refusal ctpicture_refusal : Value}
    {fmost_refusal : Addr} {odmost_refusal anmost_refusal : Option Addr} {slmost_refusal : Array (Option Value)} {ocmost_refusal kVmost_refusal dcmost_refusal pmmost_refusal cdmost_refusal ctmost_refusal : Value}
    {fcut_refusal : Addr} {odcut_refusal ancut_refusal : Option Addr} {slcut_refusal : Array (Option Value)} {occut_refusal kVcut_refusal dccut_refusal pmcut_refusal cdcut_refusal ctcut_refusal : Value}
    {fborder_refusal : Addr} {odborder_refusal anborder_refusal : Option Addr} {slborder_refusal : Array (Option Value)} {ocborder_refusal kVborder_refusal dcborder_refusal pmborder_refusal cdborder_refusal ctborder_refusal : Value}
    {fundo_refusal : Addr} {odundo_refusal anundo_refusal : Option Addr} {slundo_refusal : Array (Option Value)} {ocundo_refusal kVundo_refusal dcundo_refusal pmundo_refusal cdundo_refusal ctundo_refusal : Value}
    {fcell_refusal : Addr} {odcell_refusal ancell_refusal : Option Addr} {slcell_refusal : Array (Option Value)} {occell_refusal kVcell_refusal dccell_refusal pmcell_refusal cdcell_refusal ctcell_refusal : Value}
    {frefusal : Addr} {odrefusal anrefusal : Option Addr} {slrefusal : Array (Option Value)} {ocrefusal kVrefusal dcrefusal pmrefusal cdrefusal ctrefusal : Value}
    {fchanged : Addr} {odchanged anchanged : Option Addr} {slchanged : Array (Option Value)} {occhanged kVchanged dcchanged pmchanged cdchanged ctchanged : Value}
    {fsize_and_d : Addr} {odsize_and_d ansize_and_d : Option Addr} {slsize_and_d : Array (Option Value)} {ocsize_and_d kVsize_and_d dcsize_and_d pmsize_and_d cdsize_and_d ctsize_and_d : Value}
    {ffraction_and_nearest : Addr} {odfraction_and_nearest anfraction_and_nearest : Option Addr} {slfraction_and_nearest : Array (Option Value)} {ocfraction_and_nearest kVfraction_and_nearest dcfraction_and_nearest pmfraction_and_nearest cdfraction_and_nearest ctfraction_and_nearest : Value}
    {fanswer_to_picture : Addr} {odanswer_to_picture ananswer_to_picture : Option Addr} {slanswer_to_picture : Array (Option Value)} {ocanswer_to_picture kVanswer_to_picture dcanswer_to_picture pmanswer_to_picture cdanswer_to_picture ctanswer_to_picture : Value}
    {fanswer_to_change : Addr} {odanswer_to_change ananswer_to_change : Option Addr} {slanswer_to_change : Array (Option Value)} {ocanswer_to_change kVanswer_to_change dcanswer_to_change pmanswer_to_change cdanswer_to_change ctanswer_to_change : Value}
    {fanswer_to_undo : Addr} {odanswer_to_undo ananswer_to_undo : Option Addr} {slanswer_to_undo : Array (Option Value)} {ocanswer_to_undo kVanswer_to_undo dcanswer_to_undo pmanswer_to_undo cdanswer_to_undo ctanswer_to_undo : Value}
    {fanswer_to_now : Addr} {odanswer_to_now ananswer_to_now : Option Addr} {slanswer_to_now : Array (Option Value)} {ocanswer_to_now kVanswer_to_now dcanswer_to_now pmanswer_to_now cdanswer_to_now ctanswer_to_now : Value}
    {fanswer_to_cell : Addr} {odanswer_to_cell ananswer_to_cell : Option Addr} {slanswer_to_cell : Array (Option Value)} {ocanswer_to_cell kVanswer_to_cell dcanswer_to_cell pmanswer_to_cell cdanswer_to_cell ctanswer_to_cell : Value}
    {fanswer_to_told : Addr} {odanswer_to_told ananswer_to_told : Option Addr} {slanswer_to_told : Array (Option Value)} {ocanswer_to_told kVanswer_to_told dcanswer_to_told pmanswer_to_told cdanswer_to_told ctanswer_to_told : Value}
    {fanswer_to_call : Addr} {odanswer_to_call ananswer_to_call : Option Addr} {slanswer_to_call : Array (Option Value)} {ocanswer_to_call kVanswer_to_call dcanswer_to_call pmanswer_to_call cdanswer_to_call ctanswer_to_call : Value}
    {fend_of_call : Addr} {odend_of_call anend_of_call : Option Addr} {slend_of_call : Array (Option Value)} {ocend_of_call kVend_of_call dcend_of_call pmend_of_call cdend_of_call ctend_of_call : Value}
    {fanswers : Addr} {odanswers ananswers : Option Addr} {slanswers : Array (Option Value)} {ocanswers kVanswers dcanswers pmanswers cdanswers ctanswers : Value}
    {tkMOST_UNDONE : Tok}
    {tkAREA : Tok}
    {tkNEAREST : Tok}
    {tkMOST_IN_A_LINE : Tok}
    {tkNOT_THERE : Tok}
    {tkGRANTED : Tok}
    {tkMOST_IN_A_CELL : Tok}
    {tkTOO_LARGE : Tok}
    {tkNOTHING_TO_UNDO : Tok}
    {tkPICTURE : Tok}
    {tkBETWEEN : Tok}
    {tkTURN : Tok}
    {tkMOST_TURNS : Tok}
    {tkMIRROR : Tok}
    {tkMOST_MIRRORS : Tok}
    {tkCUT : Tok}
    {tkBORDER : Tok}
    {tkLEAN : Tok}
    {tkMOST_LEANS : Tok}
    {tkUNDO : Tok}
    {tkCELL : Tok}
    {tkROUNDED : Tok}
    {tkFIRST_D_REFUSED : Tok}
    {tkD_TOO_LARGE : Tok}
    {tkNOW : Tok}
    {tkTOLD : Tok}
    {adNUMBER_COUNTS : Addr} {odNUMBER_COUNTS : Option Addr} {nnNUMBER_COUNTS : Nat} {slNUMBER_COUNTS : Array (Option Value)} {tkNUMBER_COUNTS_0 tkNUMBER_COUNTS_1 tkNUMBER_COUNTS_2 tkNUMBER_COUNTS_3 tkNUMBER_COUNTS_4 tkNUMBER_COUNTS_5 tkNUMBER_COUNTS_6 tkNUMBER_COUNTS_7 tkNUMBER_COUNTS_8 tkNUMBER_COUNTS_9 tkNUMBER_COUNTS_10 tkNUMBER_COUNTS_11 tkNUMBER_COUNTS_12 tkNUMBER_COUNTS_13 : Tok}
    (aCPicture : PySem.W.nsIn K mainGlobals "Picture" = some (some (.ref CPicture)))
    (pgPicture : PySem.W.plainGet K CPicture Str.empty = true)
    (hdPicture : PySem.W.hasDictIn K CPicture = true)
    (poPicture : PySem.W.plainOver K CPicture = true)
    (saPicture : PySem.W.findIn K (.ref CPicture) "__setattr__" = some (some (.builtin "object.__setattr__")))
    (mkPicture : PySem.W.makesIn K CPicture = true)
    (kcPicture : PySem.W.keepIn K (.ref CPicture) = true)
    (nPicture_d : PySem.W.findIn K (.ref CPicture) "d" = some none)
    (nPicture_rows : PySem.W.findIn K (.ref CPicture) "rows" = some none)
    (aCDesk : PySem.W.nsIn K mainGlobals "Desk" = some (some (.ref CDesk)))
    (pgDesk : PySem.W.plainGet K CDesk Str.empty = true)
    (hdDesk : PySem.W.hasDictIn K CDesk = true)
    (poDesk : PySem.W.plainOver K CDesk = true)
    (saDesk : PySem.W.findIn K (.ref CDesk) "__setattr__" = some (some (.builtin "object.__setattr__")))
    (mkDesk : PySem.W.makesIn K CDesk = true)
    (kcDesk : PySem.W.keepIn K (.ref CDesk) = true)
    (nDesk_picture : PySem.W.findIn K (.ref CDesk) "picture" = some none)
    (nDesk_earlier : PySem.W.findIn K (.ref CDesk) "earlier" = some none)
    (a_Picture_init : PySem.W.findIn K (.ref CPicture) "__init__" = some (some (.ref fPicture_init)))
    (i_Picture_init : PySem.W.isFn K (.ref fPicture_init) = true)
    (l_Picture_init : K.lookup fPicture_init = some ⟨ocPicture_init, odPicture_init, .func (PySem.W.fnOf "__init__" "Picture.__init__" (defArgs s_Picture_init) (defBody s_Picture_init) (defScope s_Picture_init) .none kVPicture_init dcPicture_init pmPicture_init anPicture_init cdPicture_init ctPicture_init), slPicture_init⟩)
    (c_Picture_init : PySem.W.codeIn K cdPicture_init "Picture.__init__" = true)
    (k_Picture_init : PySem.W.keepIn K (.ref fPicture_init) = true)
    (a_Picture_width : PySem.W.findIn K (.ref CPicture) "width" = some (some (.ref fPicture_width)))
    (i_Picture_width : PySem.W.isFn K (.ref fPicture_width) = true)
    (l_Picture_width : K.lookup fPicture_width = some ⟨ocPicture_width, odPicture_width, .func (PySem.W.fnOf "width" "Picture.width" (defArgs s_Picture_width) (defBody s_Picture_width) (defScope s_Picture_width) .none kVPicture_width dcPicture_width pmPicture_width anPicture_width cdPicture_width ctPicture_width), slPicture_width⟩)
    (c_Picture_width : PySem.W.codeIn K cdPicture_width "Picture.width" = true)
    (k_Picture_width : PySem.W.keepIn K (.ref fPicture_width) = true)
    (a_Picture_height : PySem.W.findIn K (.ref CPicture) "height" = some (some (.ref fPicture_height)))
    (i_Picture_height : PySem.W.isFn K (.ref fPicture_height) = true)
    (l_Picture_height : K.lookup fPicture_height = some ⟨ocPicture_height, odPicture_height, .func (PySem.W.fnOf "height" "Picture.height" (defArgs s_Picture_height) (defBody s_Picture_height) (defScope s_Picture_height) .none kVPicture_height dcPicture_height pmPicture_height anPicture_height cdPicture_height ctPicture_height), slPicture_height⟩)
    (c_Picture_height : PySem.W.codeIn K cdPicture_height "Picture.height" = true)
    (k_Picture_height : PySem.W.keepIn K (.ref fPicture_height) = true)
    (a_Desk_init : PySem.W.findIn K (.ref CDesk) "__init__" = some (some (.ref fDesk_init)))
    (i_Desk_init : PySem.W.isFn K (.ref fDesk_init) = true)
    (l_Desk_init : K.lookup fDesk_init = some ⟨ocDesk_init, odDesk_init, .func (PySem.W.fnOf "__init__" "Desk.__init__" (defArgs s_Desk_init) (defBody s_Desk_init) (defScope s_Desk_init) .none kVDesk_init dcDesk_init pmDesk_init anDesk_init cdDesk_init ctDesk_init), slDesk_init⟩)
    (c_Desk_init : PySem.W.codeIn K cdDesk_init "Desk.__init__" = true)
    (k_Desk_init : PySem.W.keepIn K (.ref fDesk_init) = true)
    (a_Desk_begin : PySem.W.findIn K (.ref CDesk) "begin" = some (some (.ref fDesk_begin)))
    (i_Desk_begin : PySem.W.isFn K (.ref fDesk_begin) = true)
    (l_Desk_begin : K.lookup fDesk_begin = some ⟨ocDesk_begin, odDesk_begin, .func (PySem.W.fnOf "begin" "Desk.begin" (defArgs s_Desk_begin) (defBody s_Desk_begin) (defScope s_Desk_begin) .none kVDesk_begin dcDesk_begin pmDesk_begin anDesk_begin cdDesk_begin ctDesk_begin), slDesk_begin⟩)
    (c_Desk_begin : PySem.W.codeIn K cdDesk_begin "Desk.begin" = true)
    (k_Desk_begin : PySem.W.keepIn K (.ref fDesk_begin) = true)
    (a_Desk_change : PySem.W.findIn K (.ref CDesk) "change" = some (some (.ref fDesk_change)))
    (i_Desk_change : PySem.W.isFn K (.ref fDesk_change) = true)
    (l_Desk_change : K.lookup fDesk_change = some ⟨ocDesk_change, odDesk_change, .func (PySem.W.fnOf "change" "Desk.change" (defArgs s_Desk_change) (defBody s_Desk_change) (defScope s_Desk_change) .none kVDesk_change dcDesk_change pmDesk_change anDesk_change cdDesk_change ctDesk_change), slDesk_change⟩)
    (c_Desk_change : PySem.W.codeIn K cdDesk_change "Desk.change" = true)
    (k_Desk_change : PySem.W.keepIn K (.ref fDesk_change) = true)
    (a_Desk_undo : PySem.W.findIn K (.ref CDesk) "undo" = some (some (.ref fDesk_undo)))
    (i_Desk_undo : PySem.W.isFn K (.ref fDesk_undo) = true)
    (l_Desk_undo : K.lookup fDesk_undo = some ⟨ocDesk_undo, odDesk_undo, .func (PySem.W.fnOf "undo" "Desk.undo" (defArgs s_Desk_undo) (defBody s_Desk_undo) (defScope s_Desk_undo) .none kVDesk_undo dcDesk_undo pmDesk_undo anDesk_undo cdDesk_undo ctDesk_undo), slDesk_undo⟩)
    (c_Desk_undo : PySem.W.codeIn K cdDesk_undo "Desk.undo" = true)
    (k_Desk_undo : PySem.W.keepIn K (.ref fDesk_undo) = true)
    (a_common_divisor : PySem.W.nsIn K mainGlobals "common_divisor" = some (some (.ref fcommon_divisor)))
    (l_common_divisor : K.lookup fcommon_divisor = some ⟨occommon_divisor, odcommon_divisor, .func (PySem.W.fnOf "common_divisor" "common_divisor" (defArgs s_common_divisor) (defBody s_common_divisor) (defScope s_common_divisor) .none kVcommon_divisor dccommon_divisor pmcommon_divisor ancommon_divisor cdcommon_divisor ctcommon_divisor), slcommon_divisor⟩)
    (c_common_divisor : PySem.W.codeIn K cdcommon_divisor "common_divisor" = true)
    (k_common_divisor : PySem.W.keepIn K (.ref fcommon_divisor) = true)
    (a_nearest_whole : PySem.W.nsIn K mainGlobals "nearest_whole" = some (some (.ref fnearest_whole)))
    (l_nearest_whole : K.lookup fnearest_whole = some ⟨ocnearest_whole, odnearest_whole, .func (PySem.W.fnOf "nearest_whole" "nearest_whole" (defArgs s_nearest_whole) (defBody s_nearest_whole) (defScope s_nearest_whole) .none kVnearest_whole dcnearest_whole pmnearest_whole annearest_whole cdnearest_whole ctnearest_whole), slnearest_whole⟩)
    (c_nearest_whole : PySem.W.codeIn K cdnearest_whole "nearest_whole" = true)
    (k_nearest_whole : PySem.W.keepIn K (.ref fnearest_whole) = true)
    (a_divided : PySem.W.nsIn K mainGlobals "divided" = some (some (.ref fdivided)))
    (l_divided : K.lookup fdivided = some ⟨ocdivided, oddivided, .func (PySem.W.fnOf "divided" "divided" (defArgs s_divided) (defBody s_divided) (defScope s_divided) .none kVdivided dcdivided pmdivided andivided cddivided ctdivided), sldivided⟩)
    (c_divided : PySem.W.codeIn K cddivided "divided" = true)
    (k_divided : PySem.W.keepIn K (.ref fdivided) = true)
    (a_in_lowest_terms : PySem.W.nsIn K mainGlobals "in_lowest_terms" = some (some (.ref fin_lowest_terms)))
    (l_in_lowest_terms : K.lookup fin_lowest_terms = some ⟨ocin_lowest_terms, odin_lowest_terms, .func (PySem.W.fnOf "in_lowest_terms" "in_lowest_terms" (defArgs s_in_lowest_terms) (defBody s_in_lowest_terms) (defScope s_in_lowest_terms) .none kVin_lowest_terms dcin_lowest_terms pmin_lowest_terms anin_lowest_terms cdin_lowest_terms ctin_lowest_terms), slin_lowest_terms⟩)
    (c_in_lowest_terms : PySem.W.codeIn K cdin_lowest_terms "in_lowest_terms" = true)
    (k_in_lowest_terms : PySem.W.keepIn K (.ref fin_lowest_terms) = true)
    (a_column : PySem.W.nsIn K mainGlobals "column" = some (some (.ref fcolumn)))
    (l_column : K.lookup fcolumn = some ⟨occolumn, odcolumn, .func (PySem.W.fnOf "column" "column" (defArgs s_column) (defBody s_column) (defScope s_column) .none kVcolumn dccolumn pmcolumn ancolumn cdcolumn ctcolumn), slcolumn⟩)
    (c_column : PySem.W.codeIn K cdcolumn "column" = true)
    (k_column : PySem.W.keepIn K (.ref fcolumn) = true)
    (a_columns : PySem.W.nsIn K mainGlobals "columns" = some (some (.ref fcolumns)))
    (l_columns : K.lookup fcolumns = some ⟨occolumns, odcolumns, .func (PySem.W.fnOf "columns" "columns" (defArgs s_columns) (defBody s_columns) (defScope s_columns) .none kVcolumns dccolumns pmcolumns ancolumns cdcolumns ctcolumns), slcolumns⟩)
    (c_columns : PySem.W.codeIn K cdcolumns "columns" = true)
    (k_columns : PySem.W.keepIn K (.ref fcolumns) = true)
    (a_backwards : PySem.W.nsIn K mainGlobals "backwards" = some (some (.ref fbackwards)))
    (l_backwards : K.lookup fbackwards = some ⟨ocbackwards, odbackwards, .func (PySem.W.fnOf "backwards" "backwards" (defArgs s_backwards) (defBody s_backwards) (defScope s_backwards) .none kVbackwards dcbackwards pmbackwards anbackwards cdbackwards ctbackwards), slbackwards⟩)
    (c_backwards : PySem.W.codeIn K cdbackwards "backwards" = true)
    (k_backwards : PySem.W.keepIn K (.ref fbackwards) = true)
    (a_area_weights : PySem.W.nsIn K mainGlobals "area_weights" = some (some (.ref farea_weights)))
    (l_area_weights : K.lookup farea_weights = some ⟨ocarea_weights, odarea_weights, .func (PySem.W.fnOf "area_weights" "area_weights" (defArgs s_area_weights) (defBody s_area_weights) (defScope s_area_weights) .none kVarea_weights dcarea_weights pmarea_weights anarea_weights cdarea_weights ctarea_weights), slarea_weights⟩)
    (c_area_weights : PySem.W.codeIn K cdarea_weights "area_weights" = true)
    (k_area_weights : PySem.W.keepIn K (.ref farea_weights) = true)
    (a_nearest_weights : PySem.W.nsIn K mainGlobals "nearest_weights" = some (some (.ref fnearest_weights)))
    (l_nearest_weights : K.lookup fnearest_weights = some ⟨ocnearest_weights, odnearest_weights, .func (PySem.W.fnOf "nearest_weights" "nearest_weights" (defArgs s_nearest_weights) (defBody s_nearest_weights) (defScope s_nearest_weights) .none kVnearest_weights dcnearest_weights pmnearest_weights annearest_weights cdnearest_weights ctnearest_weights), slnearest_weights⟩)
    (c_nearest_weights : PySem.W.codeIn K cdnearest_weights "nearest_weights" = true)
    (k_nearest_weights : PySem.W.keepIn K (.ref fnearest_weights) = true)
    (a_between_weights : PySem.W.nsIn K mainGlobals "between_weights" = some (some (.ref fbetween_weights)))
    (l_between_weights : K.lookup fbetween_weights = some ⟨ocbetween_weights, odbetween_weights, .func (PySem.W.fnOf "between_weights" "between_weights" (defArgs s_between_weights) (defBody s_between_weights) (defScope s_between_weights) .none kVbetween_weights dcbetween_weights pmbetween_weights anbetween_weights cdbetween_weights ctbetween_weights), slbetween_weights⟩)
    (c_between_weights : PySem.W.codeIn K cdbetween_weights "between_weights" = true)
    (k_between_weights : PySem.W.keepIn K (.ref fbetween_weights) = true)
    (a_weights_of_one : PySem.W.nsIn K mainGlobals "weights_of_one" = some (some (.ref fweights_of_one)))
    (l_weights_of_one : K.lookup fweights_of_one = some ⟨ocweights_of_one, odweights_of_one, .func (PySem.W.fnOf "weights_of_one" "weights_of_one" (defArgs s_weights_of_one) (defBody s_weights_of_one) (defScope s_weights_of_one) .none kVweights_of_one dcweights_of_one pmweights_of_one anweights_of_one cdweights_of_one ctweights_of_one), slweights_of_one⟩)
    (c_weights_of_one : PySem.W.codeIn K cdweights_of_one "weights_of_one" = true)
    (k_weights_of_one : PySem.W.keepIn K (.ref fweights_of_one) = true)
    (a_weights_of_all : PySem.W.nsIn K mainGlobals "weights_of_all" = some (some (.ref fweights_of_all)))
    (l_weights_of_all : K.lookup fweights_of_all = some ⟨ocweights_of_all, odweights_of_all, .func (PySem.W.fnOf "weights_of_all" "weights_of_all" (defArgs s_weights_of_all) (defBody s_weights_of_all) (defScope s_weights_of_all) .none kVweights_of_all dcweights_of_all pmweights_of_all anweights_of_all cdweights_of_all ctweights_of_all), slweights_of_all⟩)
    (c_weights_of_all : PySem.W.codeIn K cdweights_of_all "weights_of_all" = true)
    (k_weights_of_all : PySem.W.keepIn K (.ref fweights_of_all) = true)
    (a_weighed : PySem.W.nsIn K mainGlobals "weighed" = some (some (.ref fweighed)))
    (l_weighed : K.lookup fweighed = some ⟨ocweighed, odweighed, .func (PySem.W.fnOf "weighed" "weighed" (defArgs s_weighed) (defBody s_weighed) (defScope s_weighed) .none kVweighed dcweighed pmweighed anweighed cdweighed ctweighed), slweighed⟩)
    (c_weighed : PySem.W.codeIn K cdweighed "weighed" = true)
    (k_weighed : PySem.W.keepIn K (.ref fweighed) = true)
    (a_row_resized : PySem.W.nsIn K mainGlobals "row_resized" = some (some (.ref frow_resized)))
    (l_row_resized : K.lookup frow_resized = some ⟨ocrow_resized, odrow_resized, .func (PySem.W.fnOf "row_resized" "row_resized" (defArgs s_row_resized) (defBody s_row_resized) (defScope s_row_resized) .none kVrow_resized dcrow_resized pmrow_resized anrow_resized cdrow_resized ctrow_resized), slrow_resized⟩)
    (c_row_resized : PySem.W.codeIn K cdrow_resized "row_resized" = true)
    (k_row_resized : PySem.W.keepIn K (.ref frow_resized) = true)
    (a_rows_resized : PySem.W.nsIn K mainGlobals "rows_resized" = some (some (.ref frows_resized)))
    (l_rows_resized : K.lookup frows_resized = some ⟨ocrows_resized, odrows_resized, .func (PySem.W.fnOf "rows_resized" "rows_resized" (defArgs s_rows_resized) (defBody s_rows_resized) (defScope s_rows_resized) .none kVrows_resized dcrows_resized pmrows_resized anrows_resized cdrows_resized ctrows_resized), slrows_resized⟩)
    (c_rows_resized : PySem.W.codeIn K cdrows_resized "rows_resized" = true)
    (k_rows_resized : PySem.W.keepIn K (.ref frows_resized) = true)
    (a_resized : PySem.W.nsIn K mainGlobals "resized" = some (some (.ref fresized)))
    (l_resized : K.lookup fresized = some ⟨ocresized, odresized, .func (PySem.W.fnOf "resized" "resized" (defArgs s_resized) (defBody s_resized) (defScope s_resized) .none kVresized dcresized pmresized anresized cdresized ctresized), slresized⟩)
    (c_resized : PySem.W.codeIn K cdresized "resized" = true)
    (k_resized : PySem.W.keepIn K (.ref fresized) = true)
    (a_turned : PySem.W.nsIn K mainGlobals "turned" = some (some (.ref fturned)))
    (l_turned : K.lookup fturned = some ⟨octurned, odturned, .func (PySem.W.fnOf "turned" "turned" (defArgs s_turned) (defBody s_turned) (defScope s_turned) .none kVturned dcturned pmturned anturned cdturned ctturned), slturned⟩)
    (c_turned : PySem.W.codeIn K cdturned "turned" = true)
    (k_turned : PySem.W.keepIn K (.ref fturned) = true)
    (a_mirrored : PySem.W.nsIn K mainGlobals "mirrored" = some (some (.ref fmirrored)))
    (l_mirrored : K.lookup fmirrored = some ⟨ocmirrored, odmirrored, .func (PySem.W.fnOf "mirrored" "mirrored" (defArgs s_mirrored) (defBody s_mirrored) (defScope s_mirrored) .none kVmirrored dcmirrored pmmirrored anmirrored cdmirrored ctmirrored), slmirrored⟩)
    (c_mirrored : PySem.W.codeIn K cdmirrored "mirrored" = true)
    (k_mirrored : PySem.W.keepIn K (.ref fmirrored) = true)
    (a_cut_out : PySem.W.nsIn K mainGlobals "cut_out" = some (some (.ref fcut_out)))
    (l_cut_out : K.lookup fcut_out = some ⟨occut_out, odcut_out, .func (PySem.W.fnOf "cut_out" "cut_out" (defArgs s_cut_out) (defBody s_cut_out) (defScope s_cut_out) .none kVcut_out dccut_out pmcut_out ancut_out cdcut_out ctcut_out), slcut_out⟩)
    (c_cut_out : PySem.W.codeIn K cdcut_out "cut_out" = true)
    (k_cut_out : PySem.W.keepIn K (.ref fcut_out) = true)
    (a_lines_of : PySem.W.nsIn K mainGlobals "lines_of" = some (some (.ref flines_of)))
    (l_lines_of : K.lookup flines_of = some ⟨oclines_of, odlines_of, .func (PySem.W.fnOf "lines_of" "lines_of" (defArgs s_lines_of) (defBody s_lines_of) (defScope s_lines_of) .none kVlines_of dclines_of pmlines_of anlines_of cdlines_of ctlines_of), sllines_of⟩)
    (c_lines_of : PySem.W.codeIn K cdlines_of "lines_of" = true)
    (k_lines_of : PySem.W.keepIn K (.ref flines_of) = true)
    (a_bordered : PySem.W.nsIn K mainGlobals "bordered" = some (some (.ref fbordered)))
    (l_bordered : K.lookup fbordered = some ⟨ocbordered, odbordered, .func (PySem.W.fnOf "bordered" "bordered" (defArgs s_bordered) (defBody s_bordered) (defScope s_bordered) .none kVbordered dcbordered pmbordered anbordered cdbordered ctbordered), slbordered⟩)
    (c_bordered : PySem.W.codeIn K cdbordered "bordered" = true)
    (k_bordered : PySem.W.keepIn K (.ref fbordered) = true)
    (a_moved_on : PySem.W.nsIn K mainGlobals "moved_on" = some (some (.ref fmoved_on)))
    (l_moved_on : K.lookup fmoved_on = some ⟨ocmoved_on, odmoved_on, .func (PySem.W.fnOf "moved_on" "moved_on" (defArgs s_moved_on) (defBody s_moved_on) (defScope s_moved_on) .none kVmoved_on dcmoved_on pmmoved_on anmoved_on cdmoved_on ctmoved_on), slmoved_on⟩)
    (c_moved_on : PySem.W.codeIn K cdmoved_on "moved_on" = true)
    (k_moved_on : PySem.W.keepIn K (.ref fmoved_on) = true)
    (a_leaned : PySem.W.nsIn K mainGlobals "leaned" = some (some (.ref fleaned)))
    (l_leaned : K.lookup fleaned = some ⟨ocleaned, odleaned, .func (PySem.W.fnOf "leaned" "leaned" (defArgs s_leaned) (defBody s_leaned) (defScope s_leaned) .none kVleaned dcleaned pmleaned anleaned cdleaned ctleaned), slleaned⟩)
    (c_leaned : PySem.W.codeIn K cdleaned "leaned" = true)
    (k_leaned : PySem.W.keepIn K (.ref fleaned) = true)
    (a_row_rounded : PySem.W.nsIn K mainGlobals "row_rounded" = some (some (.ref frow_rounded)))
    (l_row_rounded : K.lookup frow_rounded = some ⟨ocrow_rounded, odrow_rounded, .func (PySem.W.fnOf "row_rounded" "row_rounded" (defArgs s_row_rounded) (defBody s_row_rounded) (defScope s_row_rounded) .none kVrow_rounded dcrow_rounded pmrow_rounded anrow_rounded cdrow_rounded ctrow_rounded), slrow_rounded⟩)
    (c_row_rounded : PySem.W.codeIn K cdrow_rounded "row_rounded" = true)
    (k_row_rounded : PySem.W.keepIn K (.ref frow_rounded) = true)
    (a_rounded : PySem.W.nsIn K mainGlobals "rounded" = some (some (.ref frounded)))
    (l_rounded : K.lookup frounded = some ⟨ocrounded, odrounded, .func (PySem.W.fnOf "rounded" "rounded" (defArgs s_rounded) (defBody s_rounded) (defScope s_rounded) .none kVrounded dcrounded pmrounded anrounded cdrounded ctrounded), slrounded⟩)
    (c_rounded : PySem.W.codeIn K cdrounded "rounded" = true)
    (k_rounded : PySem.W.keepIn K (.ref frounded) = true)
    (a_drawn : PySem.W.nsIn K mainGlobals "drawn" = some (some (.ref fdrawn)))
    (l_drawn : K.lookup fdrawn = some ⟨ocdrawn, oddrawn, .func (PySem.W.fnOf "drawn" "drawn" (defArgs s_drawn) (defBody s_drawn) (defScope s_drawn) .none kVdrawn dcdrawn pmdrawn andrawn cddrawn ctdrawn), sldrawn⟩)
    (c_drawn : PySem.W.codeIn K cddrawn "drawn" = true)
    (k_drawn : PySem.W.keepIn K (.ref fdrawn) = true)
    (a_size_refusal : PySem.W.nsIn K mainGlobals "size_refusal" = some (some (.ref fsize_refusal)))
    (l_size_refusal : K.lookup fsize_refusal = some ⟨ocsize_refusal, odsize_refusal, .func (PySem.W.fnOf "size_refusal" "size_refusal" (defArgs s_size_refusal) (defBody s_size_refusal) (defScope s_size_refusal) .none kVsize_refusal dcsize_refusal pmsize_refusal ansize_refusal cdsize_refusal ctsize_refusal), slsize_refusal⟩)
    (c_size_refusal : PySem.W.codeIn K cdsize_refusal "size_refusal" = true)
    (k_size_refusal : PySem.W.keepIn K (.ref fsize_refusal) = true)
    (a_picture_refusal : PySem.W.nsIn K mainGlobals "picture_refusal" = some (some (.ref fpicture_refusal)))
    (l_picture_refusal : K.lookup fpicture_refusal = some ⟨ocpicture_refusal, odpicture_refusal, .func (PySem.W.fnOf "picture_refusal" "picture_refusal" (defArgs s_picture_refusal) (defBody s_picture_refusal) (defScope s_picture_refusal) .none kVpicture_refusal dcpicture_refusal pmpicture_refusal anpicture_refusal cdpicture_refusal ctpicture_refusal), slpicture_refusal⟩)
    (c_picture_refusal : PySem.W.codeIn K cdpicture_refusal "picture_refusal" = true)
    (k_picture_refusal : PySem.W.keepIn K (.ref fpicture_refusal) = true)
    (a_most_refusal : PySem.W.nsIn K mainGlobals "most_refusal" = some (some (.ref fmost_refusal)))
    (l_most_refusal : K.lookup fmost_refusal = some ⟨ocmost_refusal, odmost_refusal, .func (PySem.W.fnOf "most_refusal" "most_refusal" (defArgs s_most_refusal) (defBody s_most_refusal) (defScope s_most_refusal) .none kVmost_refusal dcmost_refusal pmmost_refusal anmost_refusal cdmost_refusal ctmost_refusal), slmost_refusal⟩)
    (c_most_refusal : PySem.W.codeIn K cdmost_refusal "most_refusal" = true)
    (k_most_refusal : PySem.W.keepIn K (.ref fmost_refusal) = true)
    (a_cut_refusal : PySem.W.nsIn K mainGlobals "cut_refusal" = some (some (.ref fcut_refusal)))
    (l_cut_refusal : K.lookup fcut_refusal = some ⟨occut_refusal, odcut_refusal, .func (PySem.W.fnOf "cut_refusal" "cut_refusal" (defArgs s_cut_refusal) (defBody s_cut_refusal) (defScope s_cut_refusal) .none kVcut_refusal dccut_refusal pmcut_refusal ancut_refusal cdcut_refusal ctcut_refusal), slcut_refusal⟩)
    (c_cut_refusal : PySem.W.codeIn K cdcut_refusal "cut_refusal" = true)
    (k_cut_refusal : PySem.W.keepIn K (.ref fcut_refusal) = true)
    (a_border_refusal : PySem.W.nsIn K mainGlobals "border_refusal" = some (some (.ref fborder_refusal)))
    (l_border_refusal : K.lookup fborder_refusal = some ⟨ocborder_refusal, odborder_refusal, .func (PySem.W.fnOf "border_refusal" "border_refusal" (defArgs s_border_refusal) (defBody s_border_refusal) (defScope s_border_refusal) .none kVborder_refusal dcborder_refusal pmborder_refusal anborder_refusal cdborder_refusal ctborder_refusal), slborder_refusal⟩)
    (c_border_refusal : PySem.W.codeIn K cdborder_refusal "border_refusal" = true)
    (k_border_refusal : PySem.W.keepIn K (.ref fborder_refusal) = true)
    (a_undo_refusal : PySem.W.nsIn K mainGlobals "undo_refusal" = some (some (.ref fundo_refusal)))
    (l_undo_refusal : K.lookup fundo_refusal = some ⟨ocundo_refusal, odundo_refusal, .func (PySem.W.fnOf "undo_refusal" "undo_refusal" (defArgs s_undo_refusal) (defBody s_undo_refusal) (defScope s_undo_refusal) .none kVundo_refusal dcundo_refusal pmundo_refusal anundo_refusal cdundo_refusal ctundo_refusal), slundo_refusal⟩)
    (c_undo_refusal : PySem.W.codeIn K cdundo_refusal "undo_refusal" = true)
    (k_undo_refusal : PySem.W.keepIn K (.ref fundo_refusal) = true)
    (a_cell_refusal : PySem.W.nsIn K mainGlobals "cell_refusal" = some (some (.ref fcell_refusal)))
    (l_cell_refusal : K.lookup fcell_refusal = some ⟨occell_refusal, odcell_refusal, .func (PySem.W.fnOf "cell_refusal" "cell_refusal" (defArgs s_cell_refusal) (defBody s_cell_refusal) (defScope s_cell_refusal) .none kVcell_refusal dccell_refusal pmcell_refusal ancell_refusal cdcell_refusal ctcell_refusal), slcell_refusal⟩)
    (c_cell_refusal : PySem.W.codeIn K cdcell_refusal "cell_refusal" = true)
    (k_cell_refusal : PySem.W.keepIn K (.ref fcell_refusal) = true)
    (a_refusal : PySem.W.nsIn K mainGlobals "refusal" = some (some (.ref frefusal)))
    (l_refusal : K.lookup frefusal = some ⟨ocrefusal, odrefusal, .func (PySem.W.fnOf "refusal" "refusal" (defArgs s_refusal) (defBody s_refusal) (defScope s_refusal) .none kVrefusal dcrefusal pmrefusal anrefusal cdrefusal ctrefusal), slrefusal⟩)
    (c_refusal : PySem.W.codeIn K cdrefusal "refusal" = true)
    (k_refusal : PySem.W.keepIn K (.ref frefusal) = true)
    (a_changed : PySem.W.nsIn K mainGlobals "changed" = some (some (.ref fchanged)))
    (l_changed : K.lookup fchanged = some ⟨occhanged, odchanged, .func (PySem.W.fnOf "changed" "changed" (defArgs s_changed) (defBody s_changed) (defScope s_changed) .none kVchanged dcchanged pmchanged anchanged cdchanged ctchanged), slchanged⟩)
    (c_changed : PySem.W.codeIn K cdchanged "changed" = true)
    (k_changed : PySem.W.keepIn K (.ref fchanged) = true)
    (a_size_and_d : PySem.W.nsIn K mainGlobals "size_and_d" = some (some (.ref fsize_and_d)))
    (l_size_and_d : K.lookup fsize_and_d = some ⟨ocsize_and_d, odsize_and_d, .func (PySem.W.fnOf "size_and_d" "size_and_d" (defArgs s_size_and_d) (defBody s_size_and_d) (defScope s_size_and_d) .none kVsize_and_d dcsize_and_d pmsize_and_d ansize_and_d cdsize_and_d ctsize_and_d), slsize_and_d⟩)
    (c_size_and_d : PySem.W.codeIn K cdsize_and_d "size_and_d" = true)
    (k_size_and_d : PySem.W.keepIn K (.ref fsize_and_d) = true)
    (a_fraction_and_nearest : PySem.W.nsIn K mainGlobals "fraction_and_nearest" = some (some (.ref ffraction_and_nearest)))
    (l_fraction_and_nearest : K.lookup ffraction_and_nearest = some ⟨ocfraction_and_nearest, odfraction_and_nearest, .func (PySem.W.fnOf "fraction_and_nearest" "fraction_and_nearest" (defArgs s_fraction_and_nearest) (defBody s_fraction_and_nearest) (defScope s_fraction_and_nearest) .none kVfraction_and_nearest dcfraction_and_nearest pmfraction_and_nearest anfraction_and_nearest cdfraction_and_nearest ctfraction_and_nearest), slfraction_and_nearest⟩)
    (c_fraction_and_nearest : PySem.W.codeIn K cdfraction_and_nearest "fraction_and_nearest" = true)
    (k_fraction_and_nearest : PySem.W.keepIn K (.ref ffraction_and_nearest) = true)
    (a_answer_to_picture : PySem.W.nsIn K mainGlobals "answer_to_picture" = some (some (.ref fanswer_to_picture)))
    (l_answer_to_picture : K.lookup fanswer_to_picture = some ⟨ocanswer_to_picture, odanswer_to_picture, .func (PySem.W.fnOf "answer_to_picture" "answer_to_picture" (defArgs s_answer_to_picture) (defBody s_answer_to_picture) (defScope s_answer_to_picture) .none kVanswer_to_picture dcanswer_to_picture pmanswer_to_picture ananswer_to_picture cdanswer_to_picture ctanswer_to_picture), slanswer_to_picture⟩)
    (c_answer_to_picture : PySem.W.codeIn K cdanswer_to_picture "answer_to_picture" = true)
    (k_answer_to_picture : PySem.W.keepIn K (.ref fanswer_to_picture) = true)
    (a_answer_to_change : PySem.W.nsIn K mainGlobals "answer_to_change" = some (some (.ref fanswer_to_change)))
    (l_answer_to_change : K.lookup fanswer_to_change = some ⟨ocanswer_to_change, odanswer_to_change, .func (PySem.W.fnOf "answer_to_change" "answer_to_change" (defArgs s_answer_to_change) (defBody s_answer_to_change) (defScope s_answer_to_change) .none kVanswer_to_change dcanswer_to_change pmanswer_to_change ananswer_to_change cdanswer_to_change ctanswer_to_change), slanswer_to_change⟩)
    (c_answer_to_change : PySem.W.codeIn K cdanswer_to_change "answer_to_change" = true)
    (k_answer_to_change : PySem.W.keepIn K (.ref fanswer_to_change) = true)
    (a_answer_to_undo : PySem.W.nsIn K mainGlobals "answer_to_undo" = some (some (.ref fanswer_to_undo)))
    (l_answer_to_undo : K.lookup fanswer_to_undo = some ⟨ocanswer_to_undo, odanswer_to_undo, .func (PySem.W.fnOf "answer_to_undo" "answer_to_undo" (defArgs s_answer_to_undo) (defBody s_answer_to_undo) (defScope s_answer_to_undo) .none kVanswer_to_undo dcanswer_to_undo pmanswer_to_undo ananswer_to_undo cdanswer_to_undo ctanswer_to_undo), slanswer_to_undo⟩)
    (c_answer_to_undo : PySem.W.codeIn K cdanswer_to_undo "answer_to_undo" = true)
    (k_answer_to_undo : PySem.W.keepIn K (.ref fanswer_to_undo) = true)
    (a_answer_to_now : PySem.W.nsIn K mainGlobals "answer_to_now" = some (some (.ref fanswer_to_now)))
    (l_answer_to_now : K.lookup fanswer_to_now = some ⟨ocanswer_to_now, odanswer_to_now, .func (PySem.W.fnOf "answer_to_now" "answer_to_now" (defArgs s_answer_to_now) (defBody s_answer_to_now) (defScope s_answer_to_now) .none kVanswer_to_now dcanswer_to_now pmanswer_to_now ananswer_to_now cdanswer_to_now ctanswer_to_now), slanswer_to_now⟩)
    (c_answer_to_now : PySem.W.codeIn K cdanswer_to_now "answer_to_now" = true)
    (k_answer_to_now : PySem.W.keepIn K (.ref fanswer_to_now) = true)
    (a_answer_to_cell : PySem.W.nsIn K mainGlobals "answer_to_cell" = some (some (.ref fanswer_to_cell)))
    (l_answer_to_cell : K.lookup fanswer_to_cell = some ⟨ocanswer_to_cell, odanswer_to_cell, .func (PySem.W.fnOf "answer_to_cell" "answer_to_cell" (defArgs s_answer_to_cell) (defBody s_answer_to_cell) (defScope s_answer_to_cell) .none kVanswer_to_cell dcanswer_to_cell pmanswer_to_cell ananswer_to_cell cdanswer_to_cell ctanswer_to_cell), slanswer_to_cell⟩)
    (c_answer_to_cell : PySem.W.codeIn K cdanswer_to_cell "answer_to_cell" = true)
    (k_answer_to_cell : PySem.W.keepIn K (.ref fanswer_to_cell) = true)
    (a_answer_to_told : PySem.W.nsIn K mainGlobals "answer_to_told" = some (some (.ref fanswer_to_told)))
    (l_answer_to_told : K.lookup fanswer_to_told = some ⟨ocanswer_to_told, odanswer_to_told, .func (PySem.W.fnOf "answer_to_told" "answer_to_told" (defArgs s_answer_to_told) (defBody s_answer_to_told) (defScope s_answer_to_told) .none kVanswer_to_told dcanswer_to_told pmanswer_to_told ananswer_to_told cdanswer_to_told ctanswer_to_told), slanswer_to_told⟩)
    (c_answer_to_told : PySem.W.codeIn K cdanswer_to_told "answer_to_told" = true)
    (k_answer_to_told : PySem.W.keepIn K (.ref fanswer_to_told) = true)
    (a_answer_to_call : PySem.W.nsIn K mainGlobals "answer_to_call" = some (some (.ref fanswer_to_call)))
    (l_answer_to_call : K.lookup fanswer_to_call = some ⟨ocanswer_to_call, odanswer_to_call, .func (PySem.W.fnOf "answer_to_call" "answer_to_call" (defArgs s_answer_to_call) (defBody s_answer_to_call) (defScope s_answer_to_call) .none kVanswer_to_call dcanswer_to_call pmanswer_to_call ananswer_to_call cdanswer_to_call ctanswer_to_call), slanswer_to_call⟩)
    (c_answer_to_call : PySem.W.codeIn K cdanswer_to_call "answer_to_call" = true)
    (k_answer_to_call : PySem.W.keepIn K (.ref fanswer_to_call) = true)
    (a_end_of_call : PySem.W.nsIn K mainGlobals "end_of_call" = some (some (.ref fend_of_call)))
    (l_end_of_call : K.lookup fend_of_call = some ⟨ocend_of_call, odend_of_call, .func (PySem.W.fnOf "end_of_call" "end_of_call" (defArgs s_end_of_call) (defBody s_end_of_call) (defScope s_end_of_call) .none kVend_of_call dcend_of_call pmend_of_call anend_of_call cdend_of_call ctend_of_call), slend_of_call⟩)
    (c_end_of_call : PySem.W.codeIn K cdend_of_call "end_of_call" = true)
    (k_end_of_call : PySem.W.keepIn K (.ref fend_of_call) = true)
    (a_answers : PySem.W.nsIn K mainGlobals "answers" = some (some (.ref fanswers)))
    (l_answers : K.lookup fanswers = some ⟨ocanswers, odanswers, .func (PySem.W.fnOf "answers" "answers" (defArgs s_answers) (defBody s_answers) (defScope s_answers) .none kVanswers dcanswers pmanswers ananswers cdanswers ctanswers), slanswers⟩)
    (c_answers : PySem.W.codeIn K cdanswers "answers" = true)
    (k_answers : PySem.W.keepIn K (.ref fanswers) = true)
    (v_MOST_UNDONE : PySem.W.nsIn K mainGlobals "MOST_UNDONE" = some (some (.int (16) tkMOST_UNDONE)))
    (v_AREA : PySem.W.nsIn K mainGlobals "AREA" = some (some (.int (1) tkAREA)))
    (v_NEAREST : PySem.W.nsIn K mainGlobals "NEAREST" = some (some (.int (2) tkNEAREST)))
    (v_MOST_IN_A_LINE : PySem.W.nsIn K mainGlobals "MOST_IN_A_LINE" = some (some (.int (12) tkMOST_IN_A_LINE)))
    (v_NOT_THERE : PySem.W.nsIn K mainGlobals "NOT_THERE" = some (some (.int (-1) tkNOT_THERE)))
    (v_GRANTED : PySem.W.nsIn K mainGlobals "GRANTED" = some (some (.int (0) tkGRANTED)))
    (v_MOST_IN_A_CELL : PySem.W.nsIn K mainGlobals "MOST_IN_A_CELL" = some (some (.int (65535) tkMOST_IN_A_CELL)))
    (v_TOO_LARGE : PySem.W.nsIn K mainGlobals "TOO_LARGE" = some (some (.int (-2) tkTOO_LARGE)))
    (v_NOTHING_TO_UNDO : PySem.W.nsIn K mainGlobals "NOTHING_TO_UNDO" = some (some (.int (-4) tkNOTHING_TO_UNDO)))
    (v_PICTURE : PySem.W.nsIn K mainGlobals "PICTURE" = some (some (.int (0) tkPICTURE)))
    (v_BETWEEN : PySem.W.nsIn K mainGlobals "BETWEEN" = some (some (.int (3) tkBETWEEN)))
    (v_TURN : PySem.W.nsIn K mainGlobals "TURN" = some (some (.int (4) tkTURN)))
    (v_MOST_TURNS : PySem.W.nsIn K mainGlobals "MOST_TURNS" = some (some (.int (3) tkMOST_TURNS)))
    (v_MIRROR : PySem.W.nsIn K mainGlobals "MIRROR" = some (some (.int (5) tkMIRROR)))
    (v_MOST_MIRRORS : PySem.W.nsIn K mainGlobals "MOST_MIRRORS" = some (some (.int (1) tkMOST_MIRRORS)))
    (v_CUT : PySem.W.nsIn K mainGlobals "CUT" = some (some (.int (6) tkCUT)))
    (v_BORDER : PySem.W.nsIn K mainGlobals "BORDER" = some (some (.int (7) tkBORDER)))
    (v_LEAN : PySem.W.nsIn K mainGlobals "LEAN" = some (some (.int (8) tkLEAN)))
    (v_MOST_LEANS : PySem.W.nsIn K mainGlobals "MOST_LEANS" = some (some (.int (11) tkMOST_LEANS)))
    (v_UNDO : PySem.W.nsIn K mainGlobals "UNDO" = some (some (.int (10) tkUNDO)))
    (v_CELL : PySem.W.nsIn K mainGlobals "CELL" = some (some (.int (12) tkCELL)))
    (v_ROUNDED : PySem.W.nsIn K mainGlobals "ROUNDED" = some (some (.int (9) tkROUNDED)))
    (v_FIRST_D_REFUSED : PySem.W.nsIn K mainGlobals "FIRST_D_REFUSED" = some (some (.int (4294967296) tkFIRST_D_REFUSED)))
    (v_D_TOO_LARGE : PySem.W.nsIn K mainGlobals "D_TOO_LARGE" = some (some (.int (-9) tkD_TOO_LARGE)))
    (v_NOW : PySem.W.nsIn K mainGlobals "NOW" = some (some (.int (11) tkNOW)))
    (v_TOLD : PySem.W.nsIn K mainGlobals "TOLD" = some (some (.int (13) tkTOLD)))
    (v_NUMBER_COUNTS : PySem.W.nsIn K mainGlobals "NUMBER_COUNTS" = some (some (.ref adNUMBER_COUNTS)))
    (w_NUMBER_COUNTS : K.lookup adNUMBER_COUNTS = some ⟨.type "tuple", odNUMBER_COUNTS, .seq #[.int (3) tkNUMBER_COUNTS_0, .int (2) tkNUMBER_COUNTS_1, .int (2) tkNUMBER_COUNTS_2, .int (2) tkNUMBER_COUNTS_3, .int (1) tkNUMBER_COUNTS_4, .int (1) tkNUMBER_COUNTS_5, .int (4) tkNUMBER_COUNTS_6, .int (5) tkNUMBER_COUNTS_7, .int (1) tkNUMBER_COUNTS_8, .int (0) tkNUMBER_COUNTS_9, .int (0) tkNUMBER_COUNTS_10, .int (0) tkNUMBER_COUNTS_11, .int (2) tkNUMBER_COUNTS_12, .int (0) tkNUMBER_COUNTS_13] nnNUMBER_COUNTS, slNUMBER_COUNTS⟩)
    (z_len : PySem.W.nsIn K mainGlobals "len" = some none)
    (z_range : PySem.W.nsIn K mainGlobals "range" = some none)
    (z_zip : PySem.W.nsIn K mainGlobals "zip" = some none)
    (z_sum : PySem.W.nsIn K mainGlobals "sum" = some none)
    (z_list : PySem.W.nsIn K mainGlobals "list" = some none)
    (z_reversed : PySem.W.nsIn K mainGlobals "reversed" = some none)
    (z_min : PySem.W.nsIn K mainGlobals "min" = some none)
    (z_max : PySem.W.nsIn K mainGlobals "max" = some none)
    (z_abs : PySem.W.nsIn K mainGlobals "abs" = some none)
    (z_enumerate : PySem.W.nsIn K mainGlobals "enumerate" = some none)
    : ∃ fd : FuncData, (∀ (s : Shared) (us : List Value), us.length = (["calls"] : List Str).length → BindsTo s fd ⟨us, []⟩ ((["calls"] : List Str).zip us)) ∧ ∀ base : Heap, K.In base → base.Ns mainGlobals mg → FnOk P w K mg base CX0 8 fa fd ["calls"] (sp_answers K) := by
  have e := hfa.symm.trans (PySem.W.mg_of X G a_answers)
  cases e
  have T : Txt K mg CPicture CDesk := ⟨⟨pgPicture, hdPicture, poPicture, saPicture⟩, nPicture_d, nPicture_rows, PySem.W.mg_of X G aCPicture, ⟨pgDesk, hdDesk, poDesk, saDesk⟩, nDesk_picture, nDesk_earlier, PySem.W.mg_of X G aCDesk, PySem.W.mg_none_of X G z_len, PySem.W.mg_none_of X G z_range, PySem.W.mg_none_of X G z_zip, PySem.W.mg_none_of X G z_sum, PySem.W.mg_none_of X G z_list, PySem.W.mg_none_of X G z_reversed, PySem.W.mg_none_of X G z_min, PySem.W.mg_none_of X G z_max, PySem.W.mg_none_of X G z_abs, PySem.W.mg_none_of X G z_enumerate⟩
  have F_Picture_init := fun_mk (st := s_Picture_init) l_Picture_init c_Picture_init k_Picture_init
  have B_Picture_init := F_Picture_init.binds (ps := ["self", "d", "rows"]) fun _ _ _ _ _ _ us hl => match us, hl with | [_, _, _], _ => rfl
  have F_Picture_width := fun_mk (st := s_Picture_width) l_Picture_width c_Picture_width k_Picture_width
  have B_Picture_width := F_Picture_width.binds (ps := ["self"]) fun _ _ _ _ _ _ us hl => match us, hl with | [_], _ => rfl
  have F_Picture_height := fun_mk (st := s_Picture_height) l_Picture_height c_Picture_height k_Picture_height
  have B_Picture_height := F_Picture_height.binds (ps := ["self"]) fun _ _ _ _ _ _ us hl => match us, hl with | [_], _ => rfl
  have F_Desk_init := fun_mk (st := s_Desk_init) l_Desk_init c_Desk_init k_Desk_init
  have B_Desk_init := F_Desk_init.binds (ps := ["self"]) fun _ _ _ _ _ _ us hl => match us, hl with | [_], _ => rfl
  have F_Desk_begin := fun_mk (st := s_Desk_begin) l_Desk_begin c_Desk_begin k_Desk_begin
  have B_Desk_begin := F_Desk_begin.binds (ps := ["self", "fresh"]) fun _ _ _ _ _ _ us hl => match us, hl with | [_, _], _ => rfl
  have F_Desk_change := fun_mk (st := s_Desk_change) l_Desk_change c_Desk_change k_Desk_change
  have B_Desk_change := F_Desk_change.binds (ps := ["self", "fresh"]) fun _ _ _ _ _ _ us hl => match us, hl with | [_, _], _ => rfl
  have F_Desk_undo := fun_mk (st := s_Desk_undo) l_Desk_undo c_Desk_undo k_Desk_undo
  have B_Desk_undo := F_Desk_undo.binds (ps := ["self"]) fun _ _ _ _ _ _ us hl => match us, hl with | [_], _ => rfl
  have F_common_divisor := fun_mk (st := s_common_divisor) l_common_divisor c_common_divisor k_common_divisor
  have B_common_divisor := F_common_divisor.binds (ps := ["first", "second"]) fun _ _ _ _ _ _ us hl => match us, hl with | [_, _], _ => rfl
  have F_nearest_whole := fun_mk (st := s_nearest_whole) l_nearest_whole c_nearest_whole k_nearest_whole
  have B_nearest_whole := F_nearest_whole.binds (ps := ["upper", "lower"]) fun _ _ _ _ _ _ us hl => match us, hl with | [_, _], _ => rfl
  have F_divided := fun_mk (st := s_divided) l_divided c_divided k_divided
  have B_divided := F_divided.binds (ps := ["row", "divisor"]) fun _ _ _ _ _ _ us hl => match us, hl with | [_, _], _ => rfl
  have F_in_lowest_terms := fun_mk (st := s_in_lowest_terms) l_in_lowest_terms c_in_lowest_terms k_in_lowest_terms
  have B_in_lowest_terms := F_in_lowest_terms.binds (ps := ["d", "rows"]) fun _ _ _ _ _ _ us hl => match us, hl with | [_, _], _ => rfl
  have F_column := fun_mk (st := s_column) l_column c_column k_column
  have B_column := F_column.binds (ps := ["rows", "x"]) fun _ _ _ _ _ _ us hl => match us, hl with | [_, _], _ => rfl
  have F_columns := fun_mk (st := s_columns) l_columns c_columns k_columns
  have B_columns := F_columns.binds (ps := ["rows"]) fun _ _ _ _ _ _ us hl => match us, hl with | [_], _ => rfl
  have F_backwards := fun_mk (st := s_backwards) l_backwards c_backwards k_backwards
  have B_backwards := F_backwards.binds (ps := ["row"]) fun _ _ _ _ _ _ us hl => match us, hl with | [_], _ => rfl
  have F_area_weights := fun_mk (st := s_area_weights) l_area_weights c_area_weights k_area_weights
  have B_area_weights := F_area_weights.binds (ps := ["old", "new", "place"]) fun _ _ _ _ _ _ us hl => match us, hl with | [_, _, _], _ => rfl
  have F_nearest_weights := fun_mk (st := s_nearest_weights) l_nearest_weights c_nearest_weights k_nearest_weights
  have B_nearest_weights := F_nearest_weights.binds (ps := ["old", "new", "place"]) fun _ _ _ _ _ _ us hl => match us, hl with | [_, _, _], _ => rfl
  have F_between_weights := fun_mk (st := s_between_weights) l_between_weights c_between_weights k_between_weights
  have B_between_weights := F_between_weights.binds (ps := ["old", "new", "place"]) fun _ _ _ _ _ _ us hl => match us, hl with | [_, _, _], _ => rfl
  have F_weights_of_one := fun_mk (st := s_weights_of_one) l_weights_of_one c_weights_of_one k_weights_of_one
  have B_weights_of_one := F_weights_of_one.binds (ps := ["call", "old", "new", "place"]) fun _ _ _ _ _ _ us hl => match us, hl with | [_, _, _, _], _ => rfl
  have F_weights_of_all := fun_mk (st := s_weights_of_all) l_weights_of_all c_weights_of_all k_weights_of_all
  have B_weights_of_all := F_weights_of_all.binds (ps := ["call", "old", "new"]) fun _ _ _ _ _ _ us hl => match us, hl with | [_, _, _], _ => rfl
  have F_weighed := fun_mk (st := s_weighed) l_weighed c_weighed k_weighed
  have B_weighed := F_weighed.binds (ps := ["row", "weights"]) fun _ _ _ _ _ _ us hl => match us, hl with | [_, _], _ => rfl
  have F_row_resized := fun_mk (st := s_row_resized) l_row_resized c_row_resized k_row_resized
  have B_row_resized := F_row_resized.binds (ps := ["row", "all_weights"]) fun _ _ _ _ _ _ us hl => match us, hl with | [_, _], _ => rfl
  have F_rows_resized := fun_mk (st := s_rows_resized) l_rows_resized c_rows_resized k_rows_resized
  have B_rows_resized := F_rows_resized.binds (ps := ["rows", "all_weights"]) fun _ _ _ _ _ _ us hl => match us, hl with | [_, _], _ => rfl
  have F_resized := fun_mk (st := s_resized) l_resized c_resized k_resized
  have B_resized := F_resized.binds (ps := ["picture", "call", "w", "h"]) fun _ _ _ _ _ _ us hl => match us, hl with | [_, _, _, _], _ => rfl
  have F_turned := fun_mk (st := s_turned) l_turned c_turned k_turned
  have B_turned := F_turned.binds (ps := ["picture", "k"]) fun _ _ _ _ _ _ us hl => match us, hl with | [_, _], _ => rfl
  have F_mirrored := fun_mk (st := s_mirrored) l_mirrored c_mirrored k_mirrored
  have B_mirrored := F_mirrored.binds (ps := ["picture", "k"]) fun _ _ _ _ _ _ us hl => match us, hl with | [_, _], _ => rfl
  have F_cut_out := fun_mk (st := s_cut_out) l_cut_out c_cut_out k_cut_out
  have B_cut_out := F_cut_out.binds (ps := ["picture", "x", "y", "u", "v"]) fun _ _ _ _ _ _ us hl => match us, hl with | [_, _, _, _, _], _ => rfl
  have F_lines_of := fun_mk (st := s_lines_of) l_lines_of c_lines_of k_lines_of
  have B_lines_of := F_lines_of.binds (ps := ["cell", "width", "height"]) fun _ _ _ _ _ _ us hl => match us, hl with | [_, _, _], _ => rfl
  have F_bordered := fun_mk (st := s_bordered) l_bordered c_bordered k_bordered
  have B_bordered := F_bordered.binds (ps := ["picture", "left", "above", "right", "below", "f"]) fun _ _ _ _ _ _ us hl => match us, hl with | [_, _, _, _, _, _], _ => rfl
  have F_moved_on := fun_mk (st := s_moved_on) l_moved_on c_moved_on k_moved_on
  have B_moved_on := F_moved_on.binds (ps := ["row", "steps"]) fun _ _ _ _ _ _ us hl => match us, hl with | [_, _], _ => rfl
  have F_leaned := fun_mk (st := s_leaned) l_leaned c_leaned k_leaned
  have B_leaned := F_leaned.binds (ps := ["picture", "k"]) fun _ _ _ _ _ _ us hl => match us, hl with | [_, _], _ => rfl
  have F_row_rounded := fun_mk (st := s_row_rounded) l_row_rounded c_row_rounded k_row_rounded
  have B_row_rounded := F_row_rounded.binds (ps := ["row", "d"]) fun _ _ _ _ _ _ us hl => match us, hl with | [_, _], _ => rfl
  have F_rounded := fun_mk (st := s_rounded) l_rounded c_rounded k_rounded
  have B_rounded := F_rounded.binds (ps := ["picture"]) fun _ _ _ _ _ _ us hl => match us, hl with | [_], _ => rfl
  have F_drawn := fun_mk (st := s_drawn) l_drawn c_drawn k_drawn
  have B_drawn := F_drawn.binds (ps := ["w", "h", "cells"]) fun _ _ _ _ _ _ us hl => match us, hl with | [_, _, _], _ => rfl
  have F_size_refusal := fun_mk (st := s_size_refusal) l_size_refusal c_size_refusal k_size_refusal
  have B_size_refusal := F_size_refusal.binds (ps := ["w", "h"]) fun _ _ _ _ _ _ us hl => match us, hl with | [_, _], _ => rfl
  have F_picture_refusal := fun_mk (st := s_picture_refusal) l_picture_refusal c_picture_refusal k_picture_refusal
  have B_picture_refusal := F_picture_refusal.binds (ps := ["w", "h", "cells"]) fun _ _ _ _ _ _ us hl => match us, hl with | [_, _, _], _ => rfl
  have F_most_refusal := fun_mk (st := s_most_refusal) l_most_refusal c_most_refusal k_most_refusal
  have B_most_refusal := F_most_refusal.binds (ps := ["number", "most"]) fun _ _ _ _ _ _ us hl => match us, hl with | [_, _], _ => rfl
  have F_cut_refusal := fun_mk (st := s_cut_refusal) l_cut_refusal c_cut_refusal k_cut_refusal
  have B_cut_refusal := F_cut_refusal.binds (ps := ["picture", "x", "y", "u", "v"]) fun _ _ _ _ _ _ us hl => match us, hl with | [_, _, _, _, _], _ => rfl
  have F_border_refusal := fun_mk (st := s_border_refusal) l_border_refusal c_border_refusal k_border_refusal
  have B_border_refusal := F_border_refusal.binds (ps := ["picture", "left", "above", "right", "below", "f"]) fun _ _ _ _ _ _ us hl => match us, hl with | [_, _, _, _, _, _], _ => rfl
  have F_undo_refusal := fun_mk (st := s_undo_refusal) l_undo_refusal c_undo_refusal k_undo_refusal
  have B_undo_refusal := F_undo_refusal.binds (ps := ["earlier"]) fun _ _ _ _ _ _ us hl => match us, hl with | [_], _ => rfl
  have F_cell_refusal := fun_mk (st := s_cell_refusal) l_cell_refusal c_cell_refusal k_cell_refusal
  have B_cell_refusal := F_cell_refusal.binds (ps := ["picture", "x", "y"]) fun _ _ _ _ _ _ us hl => match us, hl with | [_, _, _], _ => rfl
  have F_refusal := fun_mk (st := s_refusal) l_refusal c_refusal k_refusal
  have B_refusal := F_refusal.binds (ps := ["desk", "call", "numbers"]) fun _ _ _ _ _ _ us hl => match us, hl with | [_, _, _], _ => rfl
  have F_changed := fun_mk (st := s_changed) l_changed c_changed k_changed
  have B_changed := F_changed.binds (ps := ["picture", "call", "numbers"]) fun _ _ _ _ _ _ us hl => match us, hl with | [_, _, _], _ => rfl
  have F_size_and_d := fun_mk (st := s_size_and_d) l_size_and_d c_size_and_d k_size_and_d
  have B_size_and_d := F_size_and_d.binds (ps := ["picture"]) fun _ _ _ _ _ _ us hl => match us, hl with | [_], _ => rfl
  have F_fraction_and_nearest := fun_mk (st := s_fraction_and_nearest) l_fraction_and_nearest c_fraction_and_nearest k_fraction_and_nearest
  have B_fraction_and_nearest := F_fraction_and_nearest.binds (ps := ["upper", "lower"]) fun _ _ _ _ _ _ us hl => match us, hl with | [_, _], _ => rfl
  have F_answer_to_picture := fun_mk (st := s_answer_to_picture) l_answer_to_picture c_answer_to_picture k_answer_to_picture
  have B_answer_to_picture := F_answer_to_picture.binds (ps := ["desk", "w", "h", "cells"]) fun _ _ _ _ _ _ us hl => match us, hl with | [_, _, _, _], _ => rfl
  have F_answer_to_change := fun_mk (st := s_answer_to_change) l_answer_to_change c_answer_to_change k_answer_to_change
  have B_answer_to_change := F_answer_to_change.binds (ps := ["desk", "call", "numbers"]) fun _ _ _ _ _ _ us hl => match us, hl with | [_, _, _], _ => rfl
  have F_answer_to_undo := fun_mk (st := s_answer_to_undo) l_answer_to_undo c_answer_to_undo k_answer_to_undo
  have B_answer_to_undo := F_answer_to_undo.binds (ps := ["desk"]) fun _ _ _ _ _ _ us hl => match us, hl with | [_], _ => rfl
  have F_answer_to_now := fun_mk (st := s_answer_to_now) l_answer_to_now c_answer_to_now k_answer_to_now
  have B_answer_to_now := F_answer_to_now.binds (ps := ["picture"]) fun _ _ _ _ _ _ us hl => match us, hl with | [_], _ => rfl
  have F_answer_to_cell := fun_mk (st := s_answer_to_cell) l_answer_to_cell c_answer_to_cell k_answer_to_cell
  have B_answer_to_cell := F_answer_to_cell.binds (ps := ["picture", "x", "y"]) fun _ _ _ _ _ _ us hl => match us, hl with | [_, _, _], _ => rfl
  have F_answer_to_told := fun_mk (st := s_answer_to_told) l_answer_to_told c_answer_to_told k_answer_to_told
  have B_answer_to_told := F_answer_to_told.binds (ps := ["picture"]) fun _ _ _ _ _ _ us hl => match us, hl with | [_], _ => rfl
  have F_answer_to_call := fun_mk (st := s_answer_to_call) l_answer_to_call c_answer_to_call k_answer_to_call
  have B_answer_to_call := F_answer_to_call.binds (ps := ["desk", "call", "numbers"]) fun _ _ _ _ _ _ us hl => match us, hl with | [_, _, _], _ => rfl
  have F_end_of_call := fun_mk (st := s_end_of_call) l_end_of_call c_end_of_call k_end_of_call
  have B_end_of_call := F_end_of_call.binds (ps := ["calls", "place"]) fun _ _ _ _ _ _ us hl => match us, hl with | [_, _], _ => rfl
  have F_answers := fun_mk (st := s_answers) l_answers c_answers k_answers
  have B_answers := F_answers.binds (ps := ["calls"]) fun _ _ _ _ _ _ us hl => match us, hl with | [_], _ => rfl
  refine ⟨PySem.W.fnOf "answers" "answers" (defArgs s_answers) (defBody s_answers) (defScope s_answers) .none kVanswers dcanswers pmanswers ananswers cdanswers ctanswers, fun s us hu => match us, hu with | [_], _ => .of_eq rfl, fun base _ _ => ?_⟩
  have q_MOST_UNDONE : Cst mg "MOST_UNDONE" (16) := ⟨_, PySem.W.mg_of X G v_MOST_UNDONE⟩
  have q_AREA : Cst mg "AREA" (1) := ⟨_, PySem.W.mg_of X G v_AREA⟩
  have q_NEAREST : Cst mg "NEAREST" (2) := ⟨_, PySem.W.mg_of X G v_NEAREST⟩
  have q_MOST_IN_A_LINE : Cst mg "MOST_IN_A_LINE" (12) := ⟨_, PySem.W.mg_of X G v_MOST_IN_A_LINE⟩
  have q_NOT_THERE : Cst mg "NOT_THERE" (-1) := ⟨_, PySem.W.mg_of X G v_NOT_THERE⟩
  have q_GRANTED : Cst mg "GRANTED" (0) := ⟨_, PySem.W.mg_of X G v_GRANTED⟩
  have q_MOST_IN_A_CELL : Cst mg "MOST_IN_A_CELL" (65535) := ⟨_, PySem.W.mg_of X G v_MOST_IN_A_CELL⟩
  have q_TOO_LARGE : Cst mg "TOO_LARGE" (-2) := ⟨_, PySem.W.mg_of X G v_TOO_LARGE⟩
  have q_NOTHING_TO_UNDO : Cst mg "NOTHING_TO_UNDO" (-4) := ⟨_, PySem.W.mg_of X G v_NOTHING_TO_UNDO⟩
  have q_PICTURE : Cst mg "PICTURE" (0) := ⟨_, PySem.W.mg_of X G v_PICTURE⟩
  have q_BETWEEN : Cst mg "BETWEEN" (3) := ⟨_, PySem.W.mg_of X G v_BETWEEN⟩
  have q_TURN : Cst mg "TURN" (4) := ⟨_, PySem.W.mg_of X G v_TURN⟩
  have q_MOST_TURNS : Cst mg "MOST_TURNS" (3) := ⟨_, PySem.W.mg_of X G v_MOST_TURNS⟩
  have q_MIRROR : Cst mg "MIRROR" (5) := ⟨_, PySem.W.mg_of X G v_MIRROR⟩
  have q_MOST_MIRRORS : Cst mg "MOST_MIRRORS" (1) := ⟨_, PySem.W.mg_of X G v_MOST_MIRRORS⟩
  have q_CUT : Cst mg "CUT" (6) := ⟨_, PySem.W.mg_of X G v_CUT⟩
  have q_BORDER : Cst mg "BORDER" (7) := ⟨_, PySem.W.mg_of X G v_BORDER⟩
  have q_LEAN : Cst mg "LEAN" (8) := ⟨_, PySem.W.mg_of X G v_LEAN⟩
  have q_MOST_LEANS : Cst mg "MOST_LEANS" (11) := ⟨_, PySem.W.mg_of X G v_MOST_LEANS⟩
  have q_UNDO : Cst mg "UNDO" (10) := ⟨_, PySem.W.mg_of X G v_UNDO⟩
  have q_CELL : Cst mg "CELL" (12) := ⟨_, PySem.W.mg_of X G v_CELL⟩
  have q_ROUNDED : Cst mg "ROUNDED" (9) := ⟨_, PySem.W.mg_of X G v_ROUNDED⟩
  have q_FIRST_D_REFUSED : Cst mg "FIRST_D_REFUSED" (4294967296) := ⟨_, PySem.W.mg_of X G v_FIRST_D_REFUSED⟩
  have q_D_TOO_LARGE : Cst mg "D_TOO_LARGE" (-9) := ⟨_, PySem.W.mg_of X G v_D_TOO_LARGE⟩
  have q_NOW : Cst mg "NOW" (11) := ⟨_, PySem.W.mg_of X G v_NOW⟩
  have q_TOLD : Cst mg "TOLD" (13) := ⟨_, PySem.W.mg_of X G v_TOLD⟩
  have q_NUMBER_COUNTS : Tup K mg "NUMBER_COUNTS" [3, 2, 2, 2, 1, 1, 4, 5, 1, 0, 0, 0, 2, 0] := ⟨_, PySem.W.mg_of X G v_NUMBER_COUNTS, _, _, _, w_NUMBER_COUNTS, rfl, rfl, (by show 14 ≤ sizeLine; decide), (.cons ⟨_, rfl⟩ (.cons ⟨_, rfl⟩ (.cons ⟨_, rfl⟩ (.cons ⟨_, rfl⟩ (.cons ⟨_, rfl⟩ (.cons ⟨_, rfl⟩ (.cons ⟨_, rfl⟩ (.cons ⟨_, rfl⟩ (.cons ⟨_, rfl⟩ (.cons ⟨_, rfl⟩ (.cons ⟨_, rfl⟩ (.cons ⟨_, rfl⟩ (.cons ⟨_, rfl⟩ (.cons ⟨_, rfl⟩ .nil))))))))))))))⟩
  have f_Picture_init : Ma P w K mg base 1 CPicture ["self", "d", "rows"] (sp_Picture CPicture) := ⟨_, _, ok_Picture_init F_Picture_init T  , ⟨mkPicture, a_Picture_init, i_Picture_init, kcPicture⟩, B_Picture_init⟩
  have f_Picture_width : Me P w K mg base 1 CPicture "width" ["self"] (sp_width CPicture) := ⟨_, _, ok_Picture_width F_Picture_width T  , ⟨a_Picture_width, i_Picture_width, k_Picture_width⟩, B_Picture_width⟩
  have f_Picture_height : Me P w K mg base 1 CPicture "height" ["self"] (sp_height CPicture) := ⟨_, _, ok_Picture_height F_Picture_height T  , ⟨a_Picture_height, i_Picture_height, k_Picture_height⟩, B_Picture_height⟩
  have f_Desk_begin : Me P w K mg base 1 CDesk "begin" ["self", "fresh"] (sp_begin CPicture CDesk) := ⟨_, _, ok_Desk_begin F_Desk_begin T  , ⟨a_Desk_begin, i_Desk_begin, k_Desk_begin⟩, B_Desk_begin⟩
  have f_Desk_change : Me P w K mg base 1 CDesk "change" ["self", "fresh"] (sp_change CPicture CDesk) := ⟨_, _, ok_Desk_change F_Desk_change T  q_MOST_UNDONE, ⟨a_Desk_change, i_Desk_change, k_Desk_change⟩, B_Desk_change⟩
  have f_Desk_undo : Me P w K mg base 1 CDesk "undo" ["self"] (sp_undo CPicture CDesk) := ⟨_, _, ok_Desk_undo F_Desk_undo T  , ⟨a_Desk_undo, i_Desk_undo, k_Desk_undo⟩, B_Desk_undo⟩
  have f_common_divisor : Fn P w K mg base 1 "common_divisor" ["first", "second"] (sp_common_divisor) := ⟨_, _, ok_common_divisor F_common_divisor T  , PySem.W.mg_of X G a_common_divisor, k_common_divisor, B_common_divisor⟩
  have f_nearest_whole : Fn P w K mg base 1 "nearest_whole" ["upper", "lower"] (sp_nearest_whole) := ⟨_, _, ok_nearest_whole F_nearest_whole T  , PySem.W.mg_of X G a_nearest_whole, k_nearest_whole, B_nearest_whole⟩
  have f_divided : Fn P w K mg base 1 "divided" ["row", "divisor"] (sp_divided) := ⟨_, _, ok_divided F_divided T  , PySem.W.mg_of X G a_divided, k_divided, B_divided⟩
  have f_column : Fn P w K mg base 1 "column" ["rows", "x"] (sp_column) := ⟨_, _, ok_column F_column T  , PySem.W.mg_of X G a_column, k_column, B_column⟩
  have f_backwards : Fn P w K mg base 1 "backwards" ["row"] (sp_backwards) := ⟨_, _, ok_backwards F_backwards T  , PySem.W.mg_of X G a_backwards, k_backwards, B_backwards⟩
  have f_area_weights : Fn P w K mg base 1 "area_weights" ["old", "new", "place"] (sp_weights areaW) := ⟨_, _, ok_area_weights F_area_weights T  , PySem.W.mg_of X G a_area_weights, k_area_weights, B_area_weights⟩
  have f_nearest_weights : Fn P w K mg base 1 "nearest_weights" ["old", "new", "place"] (sp_weights nearW) := ⟨_, _, ok_nearest_weights F_nearest_weights T  , PySem.W.mg_of X G a_nearest_weights, k_nearest_weights, B_nearest_weights⟩
  have f_between_weights : Fn P w K mg base 1 "between_weights" ["old", "new", "place"] (sp_weights betwW) := ⟨_, _, ok_between_weights F_between_weights T  , PySem.W.mg_of X G a_between_weights, k_between_weights, B_between_weights⟩
  have f_weighed : Fn P w K mg base 1 "weighed" ["row", "weights"] (sp_weighed) := ⟨_, _, ok_weighed F_weighed T  , PySem.W.mg_of X G a_weighed, k_weighed, B_weighed⟩
  have f_lines_of : Fn P w K mg base 1 "lines_of" ["cell", "width", "height"] (sp_lines_of) := ⟨_, _, ok_lines_of F_lines_of T  , PySem.W.mg_of X G a_lines_of, k_lines_of, B_lines_of⟩
  have f_moved_on : Fn P w K mg base 1 "moved_on" ["row", "steps"] (sp_moved_on) := ⟨_, _, ok_moved_on F_moved_on T  , PySem.W.mg_of X G a_moved_on, k_moved_on, B_moved_on⟩
  have f_size_refusal : Fn P w K mg base 1 "size_refusal" ["w", "h"] (sp_size_refusal) := ⟨_, _, ok_size_refusal F_size_refusal T  q_MOST_IN_A_LINE q_NOT_THERE q_GRANTED, PySem.W.mg_of X G a_size_refusal, k_size_refusal, B_size_refusal⟩
  have f_most_refusal : Fn P w K mg base 1 "most_refusal" ["number", "most"] (sp_most_refusal) := ⟨_, _, ok_most_refusal F_most_refusal T  q_TOO_LARGE q_GRANTED, PySem.W.mg_of X G a_most_refusal, k_most_refusal, B_most_refusal⟩
  have f_undo_refusal : Fn P w K mg base 1 "undo_refusal" ["earlier"] (sp_undo_refusal) := ⟨_, _, ok_undo_refusal F_undo_refusal T  q_NOTHING_TO_UNDO q_GRANTED, PySem.W.mg_of X G a_undo_refusal, k_undo_refusal, B_undo_refusal⟩
  have f_end_of_call : Fn P w K mg base 1 "end_of_call" ["calls", "place"] (sp_end_of_call K) := ⟨_, _, ok_end_of_call F_end_of_call T  q_NUMBER_COUNTS q_PICTURE, PySem.W.mg_of X G a_end_of_call, k_end_of_call, B_end_of_call⟩
  have f_columns : Fn P w K mg base 2 "columns" ["rows"] (sp_columns) := ⟨_, _, ok_columns F_columns T f_column , PySem.W.mg_of X G a_columns, k_columns, B_columns⟩
  have f_weights_of_one : Fn P w K mg base 2 "weights_of_one" ["call", "old", "new", "place"] (sp_weights_of_one) := ⟨_, _, ok_weights_of_one F_weights_of_one T f_between_weights f_area_weights f_nearest_weights q_AREA q_NEAREST, PySem.W.mg_of X G a_weights_of_one, k_weights_of_one, B_weights_of_one⟩
  have f_row_resized : Fn P w K mg base 2 "row_resized" ["row", "all_weights"] (sp_row_resized) := ⟨_, _, ok_row_resized F_row_resized T f_weighed , PySem.W.mg_of X G a_row_resized, k_row_resized, B_row_resized⟩
  have f_row_rounded : Fn P w K mg base 2 "row_rounded" ["row", "d"] (sp_row_rounded) := ⟨_, _, ok_row_rounded F_row_rounded T f_nearest_whole , PySem.W.mg_of X G a_row_rounded, k_row_rounded, B_row_rounded⟩
  have f_picture_refusal : Fn P w K mg base 2 "picture_refusal" ["w", "h", "cells"] (sp_picture_refusal) := ⟨_, _, ok_picture_refusal F_picture_refusal T f_most_refusal f_size_refusal q_GRANTED q_NOT_THERE q_MOST_IN_A_CELL, PySem.W.mg_of X G a_picture_refusal, k_picture_refusal, B_picture_refusal⟩
  have f_cut_refusal : Fn P w K mg base 2 "cut_refusal" ["picture", "x", "y", "u", "v"] (sp_cut_refusal CPicture) := ⟨_, _, ok_cut_refusal F_cut_refusal T f_Picture_width f_Picture_height q_NOT_THERE q_GRANTED, PySem.W.mg_of X G a_cut_refusal, k_cut_refusal, B_cut_refusal⟩
  have f_border_refusal : Fn P w K mg base 2 "border_refusal" ["picture", "left", "above", "right", "below", "f"] (sp_border_refusal CPicture) := ⟨_, _, ok_border_refusal F_border_refusal T f_most_refusal f_Picture_width f_Picture_height q_MOST_IN_A_LINE q_NOT_THERE q_MOST_IN_A_CELL, PySem.W.mg_of X G a_border_refusal, k_border_refusal, B_border_refusal⟩
  have f_cell_refusal : Fn P w K mg base 2 "cell_refusal" ["picture", "x", "y"] (sp_cell_refusal CPicture) := ⟨_, _, ok_cell_refusal F_cell_refusal T f_Picture_width f_Picture_height q_NOT_THERE q_GRANTED, PySem.W.mg_of X G a_cell_refusal, k_cell_refusal, B_cell_refusal⟩
  have f_size_and_d : Fn P w K mg base 2 "size_and_d" ["picture"] (sp_size_and_d CPicture) := ⟨_, _, ok_size_and_d F_size_and_d T f_Picture_width f_Picture_height , PySem.W.mg_of X G a_size_and_d, k_size_and_d, B_size_and_d⟩
  have f_fraction_and_nearest : Fn P w K mg base 2 "fraction_and_nearest" ["upper", "lower"] (sp_fraction_and_nearest) := ⟨_, _, ok_fraction_and_nearest F_fraction_and_nearest T f_common_divisor f_nearest_whole , PySem.W.mg_of X G a_fraction_and_nearest, k_fraction_and_nearest, B_fraction_and_nearest⟩
  have f_Desk_init : Ma P w K mg base 3 CDesk ["self"] (sp_Desk CPicture CDesk) := ⟨_, _, ok_Desk_init F_Desk_init T f_Picture_init , ⟨mkDesk, a_Desk_init, i_Desk_init, kcDesk⟩, B_Desk_init⟩
  have f_in_lowest_terms : Fn P w K mg base 3 "in_lowest_terms" ["d", "rows"] (sp_in_lowest_terms CPicture) := ⟨_, _, ok_in_lowest_terms F_in_lowest_terms T f_Picture_init f_common_divisor f_divided , PySem.W.mg_of X G a_in_lowest_terms, k_in_lowest_terms, B_in_lowest_terms⟩
  have f_weights_of_all : Fn P w K mg base 3 "weights_of_all" ["call", "old", "new"] (sp_weights_of_all) := ⟨_, _, ok_weights_of_all F_weights_of_all T f_weights_of_one , PySem.W.mg_of X G a_weights_of_all, k_weights_of_all, B_weights_of_all⟩
  have f_rows_resized : Fn P w K mg base 3 "rows_resized" ["rows", "all_weights"] (sp_rows_resized) := ⟨_, _, ok_rows_resized F_rows_resized T f_row_resized , PySem.W.mg_of X G a_rows_resized, k_rows_resized, B_rows_resized⟩
  have f_turned : Fn P w K mg base 3 "turned" ["picture", "k"] (sp_turned CPicture) := ⟨_, _, ok_turned F_turned T f_Picture_init f_backwards f_columns , PySem.W.mg_of X G a_turned, k_turned, B_turned⟩
  have f_mirrored : Fn P w K mg base 3 "mirrored" ["picture", "k"] (sp_mirrored CPicture) := ⟨_, _, ok_mirrored F_mirrored T f_Picture_init f_backwards , PySem.W.mg_of X G a_mirrored, k_mirrored, B_mirrored⟩
  have f_bordered : Fn P w K mg base 3 "bordered" ["picture", "left", "above", "right", "below", "f"] (sp_bordered CPicture) := ⟨_, _, ok_bordered F_bordered T f_Picture_init f_Picture_width f_lines_of , PySem.W.mg_of X G a_bordered, k_bordered, B_bordered⟩
  have f_leaned : Fn P w K mg base 3 "leaned" ["picture", "k"] (sp_leaned CPicture) := ⟨_, _, ok_leaned F_leaned T f_Picture_init f_moved_on , PySem.W.mg_of X G a_leaned, k_leaned, B_leaned⟩
  have f_rounded : Fn P w K mg base 3 "rounded" ["picture"] (sp_rounded CPicture) := ⟨_, _, ok_rounded F_rounded T f_Picture_init f_row_rounded , PySem.W.mg_of X G a_rounded, k_rounded, B_rounded⟩
  have f_drawn : Fn P w K mg base 3 "drawn" ["w", "h", "cells"] (sp_drawn CPicture) := ⟨_, _, ok_drawn F_drawn T f_Picture_init , PySem.W.mg_of X G a_drawn, k_drawn, B_drawn⟩
  have f_refusal : Fn P w K mg base 3 "refusal" ["desk", "call", "numbers"] (sp_refusal CPicture CDesk) := ⟨_, _, ok_refusal F_refusal T f_picture_refusal f_size_refusal f_most_refusal f_cut_refusal f_border_refusal f_undo_refusal f_cell_refusal q_PICTURE q_BETWEEN q_NEAREST q_AREA q_TURN q_MOST_TURNS q_MIRROR q_MOST_MIRRORS q_CUT q_BORDER q_LEAN q_MOST_LEANS q_UNDO q_CELL q_GRANTED, PySem.W.mg_of X G a_refusal, k_refusal, B_refusal⟩
  have f_answer_to_undo : Fn P w K mg base 3 "answer_to_undo" ["desk"] (sp_answer_to_undo CPicture CDesk) := ⟨_, _, ok_answer_to_undo F_answer_to_undo T f_Desk_undo f_size_and_d , PySem.W.mg_of X G a_answer_to_undo, k_answer_to_undo, B_answer_to_undo⟩
  have f_answer_to_now : Fn P w K mg base 3 "answer_to_now" ["picture"] (sp_answer_to_now CPicture) := ⟨_, _, ok_answer_to_now F_answer_to_now T f_size_and_d , PySem.W.mg_of X G a_answer_to_now, k_answer_to_now, B_answer_to_now⟩
  have f_answer_to_cell : Fn P w K mg base 3 "answer_to_cell" ["picture", "x", "y"] (sp_answer_to_cell CPicture) := ⟨_, _, ok_answer_to_cell F_answer_to_cell T f_fraction_and_nearest , PySem.W.mg_of X G a_answer_to_cell, k_answer_to_cell, B_answer_to_cell⟩
  have f_answer_to_told : Fn P w K mg base 3 "answer_to_told" ["picture"] (sp_answer_to_told CPicture) := ⟨_, _, ok_answer_to_told F_answer_to_told T f_Picture_width f_Picture_height f_fraction_and_nearest , PySem.W.mg_of X G a_answer_to_told, k_answer_to_told, B_answer_to_told⟩
  have f_resized : Fn P w K mg base 4 "resized" ["picture", "call", "w", "h"] (sp_resized CPicture) := ⟨_, _, ok_resized F_resized T f_weights_of_all f_rows_resized f_columns f_in_lowest_terms f_Picture_width f_Picture_height , PySem.W.mg_of X G a_resized, k_resized, B_resized⟩
  have f_cut_out : Fn P w K mg base 4 "cut_out" ["picture", "x", "y", "u", "v"] (sp_cut_out CPicture) := ⟨_, _, ok_cut_out F_cut_out T f_in_lowest_terms , PySem.W.mg_of X G a_cut_out, k_cut_out, B_cut_out⟩
  have f_answer_to_picture : Fn P w K mg base 4 "answer_to_picture" ["desk", "w", "h", "cells"] (sp_answer_to_picture CPicture CDesk) := ⟨_, _, ok_answer_to_picture F_answer_to_picture T f_Desk_begin f_drawn , PySem.W.mg_of X G a_answer_to_picture, k_answer_to_picture, B_answer_to_picture⟩
  have f_changed : Fn P w K mg base 5 "changed" ["picture", "call", "numbers"] (sp_changed CPicture) := ⟨_, _, ok_changed F_changed T f_resized f_turned f_mirrored f_cut_out f_bordered f_leaned f_rounded q_TURN q_MIRROR q_CUT q_BORDER q_LEAN q_ROUNDED, PySem.W.mg_of X G a_changed, k_changed, B_changed⟩
  have f_answer_to_change : Fn P w K mg base 6 "answer_to_change" ["desk", "call", "numbers"] (sp_answer_to_change CPicture CDesk) := ⟨_, _, ok_answer_to_change F_answer_to_change T f_changed f_Desk_change f_size_and_d q_FIRST_D_REFUSED q_D_TOO_LARGE, PySem.W.mg_of X G a_answer_to_change, k_answer_to_change, B_answer_to_change⟩
  have f_answer_to_call : Fn P w K mg base 7 "answer_to_call" ["desk", "call", "numbers"] (sp_answer_to_call CPicture CDesk) := ⟨_, _, ok_answer_to_call F_answer_to_call T f_refusal f_answer_to_change f_answer_to_picture f_answer_to_undo f_answer_to_now f_answer_to_cell f_answer_to_told q_GRANTED q_PICTURE q_UNDO q_NOW q_CELL q_TOLD, PySem.W.mg_of X G a_answer_to_call, k_answer_to_call, B_answer_to_call⟩
  exact ok_answers F_answers T f_Desk_init f_end_of_call f_answer_to_call 
end Pa
open PySem PySem.W PyProof.Rows
set_option maxRecDepth 100000 in
set_option maxHeartbeats 0 in
theorem PySem.Challenge.cw_pictureareas_s01_answers_holds : PySem.Challenge.rw_pictureareas_s01_answers.Holds := by
  w_on; k_headS; (case hw => exact ⟨[.list [.int 11]], by decide +kernel, by decide +kernel⟩)
  k_fillS
  refine L2.walk_specK (r := PySem.Challenge.rw_pictureareas_s01_answers) (k := 8) (CX := L2.CX0) (ps := ["calls"]) (sp := fun K => Pa.sp_answers K) (by decide +kernel) rfl rfl ⟨rfl, by decide, by decide⟩ (fun w h Y => PySem.W.kIn_of Y) ?F ?S (fun _ _ _ _ z => z)
  case F =>
    intro w mg fa h Y KX G hmg
    refine' Pa.all_mk KX G hmg ?aCPicture ?pgPicture ?hdPicture ?poPicture ?saPicture ?mkPicture ?kcPicture ?nPicture_d ?nPicture_rows ?aCDesk ?pgDesk ?hdDesk ?poDesk ?saDesk ?mkDesk ?kcDesk ?nDesk_picture ?nDesk_earlier ?a_Picture_init ?i_Picture_init ?l_Picture_init ?c_Picture_init ?k_Picture_init ?a_Picture_width ?i_Picture_width ?l_Picture_width ?c_Picture_width ?k_Picture_width ?a_Picture_height ?i_Picture_height ?l_Picture_height ?c_Picture_height ?k_Picture_height ?a_Desk_init ?i_Desk_init ?l_Desk_init ?c_Desk_init ?k_Desk_init ?a_Desk_begin ?i_Desk_begin ?l_Desk_begin ?c_Desk_begin ?k_Desk_begin ?a_Desk_change ?i_Desk_change ?l_Desk_change ?c_Desk_change ?k_Desk_change ?a_Desk_undo ?i_Desk_undo ?l_Desk_undo ?c_Desk_undo ?k_Desk_undo ?a_common_divisor ?l_common_divisor ?c_common_divisor ?k_common_divisor ?a_nearest_whole ?l_nearest_whole ?c_nearest_whole ?k_nearest_whole ?a_divided ?l_divided ?c_divided ?k_divided ?a_in_lowest_terms ?l_in_lowest_terms ?c_in_lowest_terms ?k_in_lowest_terms ?a_column ?l_column ?c_column ?k_column ?a_columns ?l_columns ?c_columns ?k_columns ?a_backwards ?l_backwards ?c_backwards ?k_backwards ?a_area_weights ?l_area_weights ?c_area_weights ?k_area_weights ?a_nearest_weights ?l_nearest_weights ?c_nearest_weights ?k_nearest_weights ?a_between_weights ?l_between_weights ?c_between_weights ?k_between_weights ?a_weights_of_one ?l_weights_of_one ?c_weights_of_one ?k_weights_of_one ?a_weights_of_all ?l_weights_of_all ?c_weights_of_all ?k_weights_of_all ?a_weighed ?l_weighed ?c_weighed ?k_weighed ?a_row_resized ?l_row_resized ?c_row_resized ?k_row_resized ?a_rows_resized ?l_rows_resized ?c_rows_resized ?k_rows_resized ?a_resized ?l_resized ?c_resized ?k_resized ?a_turned ?l_turned ?c_turned ?k_turned ?a_mirrored ?l_mirrored ?c_mirrored ?k_mirrored ?a_cut_out ?l_cut_out ?c_cut_out ?k_cut_out ?a_lines_of ?l_lines_of ?c_lines_of ?k_lines_of ?a_bordered ?l_bordered ?c_bordered ?k_bordered ?a_moved_on ?l_moved_on ?c_moved_on ?k_moved_on ?a_leaned ?l_leaned ?c_leaned ?k_leaned ?a_row_rounded ?l_row_rounded ?c_row_rounded ?k_row_rounded ?a_rounded ?l_rounded ?c_rounded ?k_rounded ?a_drawn ?l_drawn ?c_drawn ?k_drawn ?a_size_refusal ?l_size_refusal ?c_size_refusal ?k_size_refusal ?a_picture_refusal ?l_picture_refusal ?c_picture_refusal ?k_picture_refusal ?a_most_refusal ?l_most_refusal ?c_most_refusal ?k_most_refusal ?a_cut_refusal ?l_cut_refusal ?c_cut_refusal ?k_cut_refusal ?a_border_refusal ?l_border_refusal ?c_border_refusal ?k_border_refusal ?a_undo_refusal ?l_undo_refusal ?c_undo_refusal ?k_undo_refusal ?a_cell_refusal ?l_cell_refusal ?c_cell_refusal ?k_cell_refusal ?a_refusal ?l_refusal ?c_refusal ?k_refusal ?a_changed ?l_changed ?c_changed ?k_changed ?a_size_and_d ?l_size_and_d ?c_size_and_d ?k_size_and_d ?a_fraction_and_nearest ?l_fraction_and_nearest ?c_fraction_and_nearest ?k_fraction_and_nearest ?a_answer_to_picture ?l_answer_to_picture ?c_answer_to_picture ?k_answer_to_picture ?a_answer_to_change ?l_answer_to_change ?c_answer_to_change ?k_answer_to_change ?a_answer_to_undo ?l_answer_to_undo ?c_answer_to_undo ?k_answer_to_undo ?a_answer_to_now ?l_answer_to_now ?c_answer_to_now ?k_answer_to_now ?a_answer_to_cell ?l_answer_to_cell ?c_answer_to_cell ?k_answer_to_cell ?a_answer_to_told ?l_answer_to_told ?c_answer_to_told ?k_answer_to_told ?a_answer_to_call ?l_answer_to_call ?c_answer_to_call ?k_answer_to_call ?a_end_of_call ?l_end_of_call ?c_end_of_call ?k_end_of_call ?a_answers ?l_answers ?c_answers ?k_answers ?v_MOST_UNDONE ?v_AREA ?v_NEAREST ?v_MOST_IN_A_LINE ?v_NOT_THERE ?v_GRANTED ?v_MOST_IN_A_CELL ?v_TOO_LARGE ?v_NOTHING_TO_UNDO ?v_PICTURE ?v_BETWEEN ?v_TURN ?v_MOST_TURNS ?v_MIRROR ?v_MOST_MIRRORS ?v_CUT ?v_BORDER ?v_LEAN ?v_MOST_LEANS ?v_UNDO ?v_CELL ?v_ROUNDED ?v_FIRST_D_REFUSED ?v_D_TOO_LARGE ?v_NOW ?v_TOLD ?v_NUMBER_COUNTS ?w_NUMBER_COUNTS ?z_len ?z_range ?z_zip ?z_sum ?z_list ?z_reversed ?z_min ?z_max ?z_abs ?z_enumerate
    (case aCPicture => k_is)
    (case pgPicture => k_is)
    (case hdPicture => k_is)
    (case poPicture => k_is)
    (case saPicture => k_is)
    (case mkPicture => k_is)
    (case kcPicture => k_is)
    (case nPicture_d => k_is)
    (case nPicture_rows => k_is)
    (case aCDesk => k_is)
    (case pgDesk => k_is)
    (case hdDesk => k_is)
    (case poDesk => k_is)
    (case saDesk => k_is)
    (case mkDesk => k_is)
    (case kcDesk => k_is)
    (case nDesk_picture => k_is)
    (case nDesk_earlier => k_is)
    (case a_Picture_init => k_is)
    (case i_Picture_init => k_is)
    (case l_Picture_init => k_is)
    (case c_Picture_init => k_is)
    (case k_Picture_init => k_is)
    (case a_Picture_width => k_is)
    (case i_Picture_width => k_is)
    (case l_Picture_width => k_is)
    (case c_Picture_width => k_is)
    (case k_Picture_width => k_is)
    (case a_Picture_height => k_is)
    (case i_Picture_height => k_is)
    (case l_Picture_height => k_is)
    (case c_Picture_height => k_is)
    (case k_Picture_height => k_is)
    (case a_Desk_init => k_is)
    (case i_Desk_init => k_is)
    (case l_Desk_init => k_is)
    (case c_Desk_init => k_is)
    (case k_Desk_init => k_is)
    (case a_Desk_begin => k_is)
    (case i_Desk_begin => k_is)
    (case l_Desk_begin => k_is)
    (case c_Desk_begin => k_is)
    (case k_Desk_begin => k_is)
    (case a_Desk_change => k_is)
    (case i_Desk_change => k_is)
    (case l_Desk_change => k_is)
    (case c_Desk_change => k_is)
    (case k_Desk_change => k_is)
    (case a_Desk_undo => k_is)
    (case i_Desk_undo => k_is)
    (case l_Desk_undo => k_is)
    (case c_Desk_undo => k_is)
    (case k_Desk_undo => k_is)
    (case a_common_divisor => k_is)
    (case l_common_divisor => k_is)
    (case c_common_divisor => k_is)
    (case k_common_divisor => k_is)
    (case a_nearest_whole => k_is)
    (case l_nearest_whole => k_is)
    (case c_nearest_whole => k_is)
    (case k_nearest_whole => k_is)
    (case a_divided => k_is)
    (case l_divided => k_is)
    (case c_divided => k_is)
    (case k_divided => k_is)
    (case a_in_lowest_terms => k_is)
    (case l_in_lowest_terms => k_is)
    (case c_in_lowest_terms => k_is)
    (case k_in_lowest_terms => k_is)
    (case a_column => k_is)
    (case l_column => k_is)
    (case c_column => k_is)
    (case k_column => k_is)
    (case a_columns => k_is)
    (case l_columns => k_is)
    (case c_columns => k_is)
    (case k_columns => k_is)
    (case a_backwards => k_is)
    (case l_backwards => k_is)
    (case c_backwards => k_is)
    (case k_backwards => k_is)
    (case a_area_weights => k_is)
    (case l_area_weights => k_is)
    (case c_area_weights => k_is)
    (case k_area_weights => k_is)
    (case a_nearest_weights => k_is)
    (case l_nearest_weights => k_is)
    (case c_nearest_weights => k_is)
    (case k_nearest_weights => k_is)
    (case a_between_weights => k_is)
    (case l_between_weights => k_is)
    (case c_between_weights => k_is)
    (case k_between_weights => k_is)
    (case a_weights_of_one => k_is)
    (case l_weights_of_one => k_is)
    (case c_weights_of_one => k_is)
    (case k_weights_of_one => k_is)
    (case a_weights_of_all => k_is)
    (case l_weights_of_all => k_is)
    (case c_weights_of_all => k_is)
    (case k_weights_of_all => k_is)
    (case a_weighed => k_is)
    (case l_weighed => k_is)
    (case c_weighed => k_is)
    (case k_weighed => k_is)
    (case a_row_resized => k_is)
    (case l_row_resized => k_is)
    (case c_row_resized => k_is)
    (case k_row_resized => k_is)
    (case a_rows_resized => k_is)
    (case l_rows_resized => k_is)
    (case c_rows_resized => k_is)
    (case k_rows_resized => k_is)
    (case a_resized => k_is)
    (case l_resized => k_is)
    (case c_resized => k_is)
    (case k_resized => k_is)
    (case a_turned => k_is)
    (case l_turned => k_is)
    (case c_turned => k_is)
    (case k_turned => k_is)
    (case a_mirrored => k_is)
    (case l_mirrored => k_is)
    (case c_mirrored => k_is)
    (case k_mirrored => k_is)
    (case a_cut_out => k_is)
    (case l_cut_out => k_is)
    (case c_cut_out => k_is)
    (case k_cut_out => k_is)
    (case a_lines_of => k_is)
    (case l_lines_of => k_is)
    (case c_lines_of => k_is)
    (case k_lines_of => k_is)
    (case a_bordered => k_is)
    (case l_bordered => k_is)
    (case c_bordered => k_is)
    (case k_bordered => k_is)
    (case a_moved_on => k_is)
    (case l_moved_on => k_is)
    (case c_moved_on => k_is)
    (case k_moved_on => k_is)
    (case a_leaned => k_is)
    (case l_leaned => k_is)
    (case c_leaned => k_is)
    (case k_leaned => k_is)
    (case a_row_rounded => k_is)
    (case l_row_rounded => k_is)
    (case c_row_rounded => k_is)
    (case k_row_rounded => k_is)
    (case a_rounded => k_is)
    (case l_rounded => k_is)
    (case c_rounded => k_is)
    (case k_rounded => k_is)
    (case a_drawn => k_is)
    (case l_drawn => k_is)
    (case c_drawn => k_is)
    (case k_drawn => k_is)
    (case a_size_refusal => k_is)
    (case l_size_refusal => k_is)
    (case c_size_refusal => k_is)
    (case k_size_refusal => k_is)
    (case a_picture_refusal => k_is)
    (case l_picture_refusal => k_is)
    (case c_picture_refusal => k_is)
    (case k_picture_refusal => k_is)
    (case a_most_refusal => k_is)
    (case l_most_refusal => k_is)
    (case c_most_refusal => k_is)
    (case k_most_refusal => k_is)
    (case a_cut_refusal => k_is)
    (case l_cut_refusal => k_is)
    (case c_cut_refusal => k_is)
    (case k_cut_refusal => k_is)
    (case a_border_refusal => k_is)
    (case l_border_refusal => k_is)
    (case c_border_refusal => k_is)
    (case k_border_refusal => k_is)
    (case a_undo_refusal => k_is)
    (case l_undo_refusal => k_is)
    (case c_undo_refusal => k_is)
    (case k_undo_refusal => k_is)
    (case a_cell_refusal => k_is)
    (case l_cell_refusal => k_is)
    (case c_cell_refusal => k_is)
    (case k_cell_refusal => k_is)
    (case a_refusal => k_is)
    (case l_refusal => k_is)
    (case c_refusal => k_is)
    (case k_refusal => k_is)
    (case a_changed => k_is)
    (case l_changed => k_is)
    (case c_changed => k_is)
    (case k_changed => k_is)
    (case a_size_and_d => k_is)
    (case l_size_and_d => k_is)
    (case c_size_and_d => k_is)
    (case k_size_and_d => k_is)
    (case a_fraction_and_nearest => k_is)
    (case l_fraction_and_nearest => k_is)
    (case c_fraction_and_nearest => k_is)
    (case k_fraction_and_nearest => k_is)
    (case a_answer_to_picture => k_is)
    (case l_answer_to_picture => k_is)
    (case c_answer_to_picture => k_is)
    (case k_answer_to_picture => k_is)
    (case a_answer_to_change => k_is)
    (case l_answer_to_change => k_is)
    (case c_answer_to_change => k_is)
    (case k_answer_to_change => k_is)
    (case a_answer_to_undo => k_is)
    (case l_answer_to_undo => k_is)
    (case c_answer_to_undo => k_is)
    (case k_answer_to_undo => k_is)
    (case a_answer_to_now => k_is)
    (case l_answer_to_now => k_is)
    (case c_answer_to_now => k_is)
    (case k_answer_to_now => k_is)
    (case a_answer_to_cell => k_is)
    (case l_answer_to_cell => k_is)
    (case c_answer_to_cell => k_is)
    (case k_answer_to_cell => k_is)
    (case a_answer_to_told => k_is)
    (case l_answer_to_told => k_is)
    (case c_answer_to_told => k_is)
    (case k_answer_to_told => k_is)
    (case a_answer_to_call => k_is)
    (case l_answer_to_call => k_is)
    (case c_answer_to_call => k_is)
    (case k_answer_to_call => k_is)
    (case a_end_of_call => k_is)
    (case l_end_of_call => k_is)
    (case c_end_of_call => k_is)
    (case k_end_of_call => k_is)
    (case a_answers => k_is)
    (case l_answers => k_is)
    (case c_answers => k_is)
    (case k_answers => k_is)
    (case v_MOST_UNDONE => k_is)
    (case v_AREA => k_is)
    (case v_NEAREST => k_is)
    (case v_MOST_IN_A_LINE => k_is)
    (case v_NOT_THERE => k_is)
    (case v_GRANTED => k_is)
    (case v_MOST_IN_A_CELL => k_is)
    (case v_TOO_LARGE => k_is)
    (case v_NOTHING_TO_UNDO => k_is)
    (case v_PICTURE => k_is)
    (case v_BETWEEN => k_is)
    (case v_TURN => k_is)
    (case v_MOST_TURNS => k_is)
    (case v_MIRROR => k_is)
    (case v_MOST_MIRRORS => k_is)
    (case v_CUT => k_is)
    (case v_BORDER => k_is)
    (case v_LEAN => k_is)
    (case v_MOST_LEANS => k_is)
    (case v_UNDO => k_is)
    (case v_CELL => k_is)
    (case v_ROUNDED => k_is)
    (case v_FIRST_D_REFUSED => k_is)
    (case v_D_TOO_LARGE => k_is)
    (case v_NOW => k_is)
    (case v_TOLD => k_is)
    (case v_NUMBER_COUNTS => k_is)
    (case w_NUMBER_COUNTS => k_is)
    (case z_len => k_is)
    (case z_range => k_is)
    (case z_zip => k_is)
    (case z_sum => k_is)
    (case z_list => k_is)
    (case z_reversed => k_is)
    (case z_min => k_is)
    (case z_max => k_is)
    (case z_abs => k_is)
    (case z_enumerate => k_is)
  case S =>
    intro K H xs a hO hwi hask hx
    cases hx with
    | cons h1 h2 =>
      cases h2
      cases h1 with
      | lst hs ha =>
        have e := L2.ints_dw a.1 _ ha
        subst e
        have q : ((Codec.inLen 0 6160 a.1 && a.1.all (Codec.inInt 0 4294967295)) && true) = true := hwi
        rw [Bool.and_eq_true, Bool.and_eq_true] at q
        have q2 : ∀ x ∈ a.1, 0 ≤ x ∧ x ≤ 4294967295 := fun x hx => by
          have := List.all_eq_true.mp q.1.2 x hx
          unfold Codec.inInt at this
          simpa using this
        have q3 : PyIe05.answers_asked a.1 = true := hask
        exact ⟨_, a.1, rfl, hs, (Codec.inNat_iff.mp q.1.1).2, q2, q3, fun H' p hp => .lst (L2.SqL.of hp) (L2.dw_ints _)⟩
