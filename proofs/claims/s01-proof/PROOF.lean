import PyProof.Rows.All
import Wide.All
import OpenK.AllK
import Wide.FinOn
import Open.SpecLaws
import KE.OsGo
import HandS.ForSpec
import HandS.ForMost
import HandS.Walk
import HandS.WrittenGet
import KE.DataMinMax
import HandS.SortKw
import PySem.Challenge.RW_partsandsets_s01_answers
set_option Elab.async false
set_option linter.all false
/-! The mathematics of the sets: how many ways, the specification's grids, make, number. No Python here. -/
namespace Ps
open Sq52 (Item Grid)
/-- what may follow behind x -/
def nx (once : Bool) (x : Item) (r : List Item) : List Item := if once = true then r else x :: r
/-- sets of a size with so many things -/
def cnt (once : Bool) : List Item → Nat → Nat → Nat
  | [], n, m => if n = 0 ∧ m = 0 then 1 else 0
  | x :: r, n, m => cnt once r n m + (if x.1 ≤ n ∧ 0 < m then (if once = true then cnt once r (n - x.1) (m - 1) else cnt once (x :: r) (n - x.1) (m - 1)) else 0)
termination_by l _ m => (l.length, m)
theorem cnt_nil (once : Bool) (n m : Nat) : cnt once [] n m = if n = 0 ∧ m = 0 then 1 else 0 := by rw [cnt]
theorem cnt_cons (once : Bool) (x : Item) (r : List Item) (n m : Nat) : cnt once (x :: r) n m = cnt once r n m + (if x.1 ≤ n ∧ 0 < m then cnt once (nx once x r) (n - x.1) (m - 1) else 0) := by
  rw [cnt]
  unfold nx
  cases once <;> rfl
def Pos (l : List Item) : Prop := ∀ x ∈ l, 1 ≤ x.1
theorem Pos.tail {x : Item} {r : List Item} (h : Pos (x :: r)) : Pos r := fun y hy => h y (List.mem_cons_of_mem _ hy)
theorem Pos.head {x : Item} {r : List Item} (h : Pos (x :: r)) : 1 ≤ x.1 := h x (List.mem_cons_self ..)
theorem Pos.nx {once : Bool} {x : Item} {r : List Item} (h : Pos (x :: r)) : Pos (nx once x r) := by
  unfold Ps.nx
  cases once
  · exact h
  · exact h.tail
theorem Pos.drop {l : List Item} (h : Pos l) (i : Nat) : Pos (l.drop i) := fun y hy => h y (List.mem_of_mem_drop hy)
theorem cnt_big (once : Bool) : ∀ (l : List Item) (n m : Nat), Pos l → n < m → cnt once l n m = 0
  | [], n, m, _, h => by
    rw [cnt_nil, if_neg (by omega)]
  | x :: r, n, m, p, h => by
    have hx := p.head
    rw [cnt_cons, cnt_big once r n m p.tail h]
    by_cases c : x.1 ≤ n ∧ 0 < m
    · rw [if_pos c]
      have : cnt once (nx once x r) (n - x.1) (m - 1) = 0 := by
        unfold nx
        cases once
        · exact cnt_big false (x :: r) (n - x.1) (m - 1) p (by omega)
        · exact cnt_big true r (n - x.1) (m - 1) p.tail (by omega)
      rw [this]
    · rw [if_neg c]
termination_by l _ m => (l.length, m)
theorem cnt_zero (once : Bool) : ∀ (l : List Item) (n : Nat), 0 < n → cnt once l n 0 = 0
  | [], n, h => by rw [cnt_nil, if_neg (by omega)]
  | x :: r, n, h => by rw [cnt_cons, cnt_zero once r n h, if_neg (by omega)]
theorem cnt_one (once : Bool) : ∀ (l : List Item), Pos l → cnt once l 0 0 = 1
  | [], _ => by rw [cnt_nil, if_pos ⟨rfl, rfl⟩]
  | x :: r, p => by rw [cnt_cons, cnt_one once r p.tail, if_neg (by omega)]
/-! sums -/
def S (N : Nat) (f : Nat → Nat) : Nat := ((List.range N).map f).sum
theorem S_zero (f : Nat → Nat) : S 0 f = 0 := rfl
theorem S_succ (N : Nat) (f : Nat → Nat) : S (N + 1) f = S N f + f N := by
  unfold S
  rw [List.range_succ, List.map_append, List.sum_append]
  simp
theorem S_congr {N : Nat} {f g : Nat → Nat} (h : ∀ m, m < N → f m = g m) : S N f = S N g := by
  induction N with
  | zero => rfl
  | succ N ih => rw [S_succ, S_succ, ih (fun m hm => h m (by omega)), h N (by omega)]
theorem S_add (N : Nat) (f g : Nat → Nat) : S N (fun m => f m + g m) = S N f + S N g := by
  induction N with
  | zero => rfl
  | succ N ih => rw [S_succ, S_succ, S_succ, ih]; omega
theorem S_shift (N : Nat) (f : Nat → Nat) : S (N + 1) f = f 0 + S N (fun m => f (m + 1)) := by
  induction N with
  | zero => rw [S_succ, S_zero, S_zero]; omega
  | succ N ih => rw [S_succ, ih, S_succ]; omega
theorem S_none {N : Nat} {f : Nat → Nat} (h : ∀ m, m < N → f m = 0) : S N f = 0 := by
  induction N with
  | zero => rfl
  | succ N ih => rw [S_succ, ih (fun m hm => h m (by omega)), h N (by omega)]
theorem S_long {N : Nat} (k : Nat) {f : Nat → Nat} (h : ∀ m, N ≤ m → f m = 0) : S (N + k) f = S N f := by
  induction k with
  | zero => rfl
  | succ k ih => rw [show N + (k + 1) = (N + k) + 1 by omega, S_succ, ih, h (N + k) (by omega)]; omega
/-- ways to end a set: so much size lacks, so many things are used -/
def W (once : Bool) (lo hi : Nat) (l : List Item) (n u : Nat) : Nat := S (n + 1) fun m => if lo ≤ u + m ∧ u + m ≤ hi then cnt once l n m else 0
/-- those that take x first -/
def tk (once : Bool) (lo hi : Nat) (x : Item) (r : List Item) (n u : Nat) : Nat := if x.1 ≤ n then W once lo hi (nx once x r) (n - x.1) (u + 1) else 0
theorem W_nil (once : Bool) (lo hi n u : Nat) : W once lo hi [] n u = if n = 0 ∧ lo ≤ u ∧ u ≤ hi then 1 else 0 := by
  unfold W
  rw [S_shift]
  have e : S n (fun m => if lo ≤ u + (m + 1) ∧ u + (m + 1) ≤ hi then cnt once [] n (m + 1) else 0) = 0 := S_none fun m _ => by
    rw [cnt_nil, if_neg (show ¬ (n = 0 ∧ m + 1 = 0) by omega)]
    split <;> rfl
  rw [e, cnt_nil]
  by_cases a : n = 0
  · by_cases b : lo ≤ u ∧ u ≤ hi
    · rw [if_pos (by simpa using b), if_pos ⟨a, rfl⟩, if_pos ⟨a, b⟩]
    · rw [if_neg (by simpa using b), if_neg (fun q => b q.2)]
  · rw [if_neg (show ¬ (n = 0 ∧ 0 = 0) by omega), if_neg (show ¬ (n = 0 ∧ lo ≤ u ∧ u ≤ hi) from fun q => a q.1)]
    split <;> rfl
theorem W_cons (once : Bool) (lo hi : Nat) (x : Item) (r : List Item) (n u : Nat) (p : Pos (x :: r)) : W once lo hi (x :: r) n u = W once lo hi r n u + tk once lo hi x r n u := by
  have hx := p.head
  have e1 : W once lo hi (x :: r) n u = S (n + 1) (fun m => (if lo ≤ u + m ∧ u + m ≤ hi then cnt once r n m else 0) + (if lo ≤ u + m ∧ u + m ≤ hi then (if x.1 ≤ n ∧ 0 < m then cnt once (nx once x r) (n - x.1) (m - 1) else 0) else 0)) := by
    unfold W
    refine S_congr fun m _ => ?_
    by_cases c : lo ≤ u + m ∧ u + m ≤ hi
    · rw [if_pos c, if_pos c, if_pos c, cnt_cons]
    · rw [if_neg c, if_neg c, if_neg c]
  rw [e1, S_add]
  refine congrArg (W once lo hi r n u + ·) ?_
  rw [S_shift, if_neg (show ¬ (x.1 ≤ n ∧ 0 < 0) by omega)]
  have z0 : (if lo ≤ u + 0 ∧ u + 0 ≤ hi then 0 else 0) = 0 := by split <;> rfl
  rw [z0, Nat.zero_add]
  unfold tk
  by_cases c : x.1 ≤ n
  · rw [if_pos c]
    unfold W
    have e2 : S n (fun m => if lo ≤ u + (m + 1) ∧ u + (m + 1) ≤ hi then (if x.1 ≤ n ∧ 0 < m + 1 then cnt once (nx once x r) (n - x.1) (m + 1 - 1) else 0) else 0) = S n (fun m => if lo ≤ u + 1 + m ∧ u + 1 + m ≤ hi then cnt once (nx once x r) (n - x.1) m else 0) := S_congr fun m _ => by
      rw [if_pos (show x.1 ≤ n ∧ 0 < m + 1 from ⟨c, by omega⟩), show u + (m + 1) = u + 1 + m by omega, Nat.add_sub_cancel]
    rw [e2]
    have e3 := S_long (N := n - x.1 + 1) (x.1 - 1) (f := fun m => if lo ≤ u + 1 + m ∧ u + 1 + m ≤ hi then cnt once (nx once x r) (n - x.1) m else 0) (fun m hm => by
      rw [cnt_big once _ _ _ p.nx (by omega)]
      split <;> rfl)
    rw [show n - x.1 + 1 + (x.1 - 1) = n by omega] at e3
    exact e3
  · rw [if_neg c]
    exact S_none fun m _ => by
      rw [if_neg (show ¬ (x.1 ≤ n ∧ 0 < m + 1) by omega)]
      split <;> rfl
theorem W_zero (once : Bool) (lo hi : Nat) (l : List Item) (u : Nat) (p : Pos l) : W once lo hi l 0 u = if lo ≤ u ∧ u ≤ hi then 1 else 0 := by
  unfold W
  rw [S_succ, S_zero, cnt_one once l p]
  simp
/-- with hi things used no more may come -/
theorem W_full (once : Bool) (lo hi : Nat) (l : List Item) (n u : Nat) (hn : 0 < n) (h : hi ≤ u) : W once lo hi l n u = 0 := by
  unfold W
  refine S_none fun m _ => ?_
  by_cases c : lo ≤ u + m ∧ u + m ≤ hi
  · have : m = 0 := by omega
    subst this
    rw [if_pos c, cnt_zero once l n hn]
  · rw [if_neg c]
/-! things that are too great -/
abbrev fl (N : Nat) (l : List Item) : List Item := l.filter fun x => decide (x.1 ≤ N)
theorem fl_pos {N : Nat} {x : Item} {r : List Item} (h : x.1 ≤ N) : fl N (x :: r) = x :: fl N r := List.filter_cons_of_pos (by simpa using h)
theorem fl_neg {N : Nat} {x : Item} {r : List Item} (h : ¬ x.1 ≤ N) : fl N (x :: r) = fl N r := List.filter_cons_of_neg (by simpa using h)
theorem Pos.fl {l : List Item} (h : Pos l) (N : Nat) : Pos (fl N l) := fun y hy => h y (List.mem_filter.mp hy).1
theorem fl_nx {N : Nat} {once : Bool} {x : Item} {r : List Item} (h : x.1 ≤ N) : fl N (nx once x r) = nx once x (fl N r) := by
  unfold nx
  cases once
  · exact fl_pos h
  · rfl
theorem cnt_fl (once : Bool) (N : Nat) : ∀ (l : List Item) (n m : Nat), n ≤ N → cnt once (fl N l) n m = cnt once l n m
  | [], _, _, _ => rfl
  | x :: r, n, m, h => by
    by_cases c : x.1 ≤ N
    · rw [fl_pos c, cnt_cons, cnt_cons, cnt_fl once N r n m h, ← fl_nx c]
      by_cases d : x.1 ≤ n ∧ 0 < m
      · rw [if_pos d, if_pos d]
        have : cnt once (fl N (nx once x r)) (n - x.1) (m - 1) = cnt once (nx once x r) (n - x.1) (m - 1) := by
          unfold nx
          cases once
          · exact cnt_fl false N (x :: r) (n - x.1) (m - 1) (by omega)
          · exact cnt_fl true N r (n - x.1) (m - 1) (by omega)
        rw [this]
      · rw [if_neg d, if_neg d]
    · rw [fl_neg c, cnt_cons, cnt_fl once N r n m h, if_neg (show ¬ (x.1 ≤ n ∧ 0 < m) by omega)]
      rfl
termination_by l _ m => (l.length, m)
theorem W_fl (once : Bool) (lo hi N : Nat) (l : List Item) (n u : Nat) (h : n ≤ N) : W once lo hi (fl N l) n u = W once lo hi l n u := by
  unfold W
  exact S_congr fun m _ => by rw [cnt_fl once N l n m h]
/-! ### the specification's grids -/
def Rep (once : Bool) (N : Nat) (l : List Item) (g : Grid) : Prop := ∀ n m, n ≤ N → m ≤ N → g.at_ n m = cnt once l n m
theorem at_getD (g : Grid) (n m : Nat) : g.at_ n m = ((g[n]?.getD #[])[m]?).getD 0 := rfl
theorem rep_nothing (once : Bool) (N : Nat) : Rep once N [] (Sq52.nothing N) := fun n m hn hm => by
  rw [at_getD, cnt_nil]
  unfold Sq52.nothing
  have h1 : n < N + 1 := by omega
  have h2 : m < N + 1 := by omega
  simp [h1, h2]
/-- rows pushed one behind another -/
def rowsTo (F : Grid → Nat → Array Nat) : Nat → Grid
  | 0 => #[]
  | i + 1 => (rowsTo F i).push (F (rowsTo F i) i)
theorem rows_fold (F : Grid → Nat → Array Nat) : ∀ k, (List.range k).foldl (fun u i => u.push (F u i)) (#[] : Grid) = rowsTo F k
  | 0 => rfl
  | k + 1 => by rw [List.range_succ, List.foldl_append, rows_fold F k]; rfl
theorem rows_size (F : Grid → Nat → Array Nat) : ∀ k, (rowsTo F k).size = k
  | 0 => rfl
  | k + 1 => by
    show ((rowsTo F k).push _).size = k + 1
    rw [Array.size_push, rows_size F k]
theorem rows_get (F : Grid → Nat → Array Nat) : ∀ k i, i < k → (rowsTo F k)[i]? = some (F (rowsTo F i) i)
  | 0, i, h => by omega
  | k + 1, i, h => by
    show ((rowsTo F k).push (F (rowsTo F k) k))[i]? = _
    rw [Array.getElem?_push, rows_size]
    by_cases e : i = k
    · rw [if_pos e, e]
    · rw [if_neg e, rows_get F k i (by omega)]
theorem rows_at (F : Grid → Nat → Array Nat) {k i m : Nat} (h : i < k) : (rowsTo F k).at_ i m = ((F (rowsTo F i) i)[m]?).getD 0 := by
  rw [at_getD, rows_get F k i h]
  rfl
theorem rep_more (once : Bool) (N : Nat) (x : Item) (r : List Item) (g : Grid) (hx : 1 ≤ x.1) (h : Rep once N r g) : Rep once N (x :: r) (Sq52.more once N x.1 g) := by
  unfold Sq52.more
  rw [rows_fold (fun u i => ((List.range (N + 1)).map fun m => g.at_ i m + (if x.1 ≤ i ∧ 0 < m then (if once = true then g.at_ (i - x.1) (m - 1) else u.at_ (i - x.1) (m - 1)) else 0)).toArray)]
  generalize eF : (fun (u : Grid) (i : Nat) => ((List.range (N + 1)).map fun m => g.at_ i m + (if x.1 ≤ i ∧ 0 < m then (if once = true then g.at_ (i - x.1) (m - 1) else u.at_ (i - x.1) (m - 1)) else 0)).toArray) = F
  have hF : ∀ u i m, m ≤ N → ((F u i)[m]?).getD 0 = g.at_ i m + (if x.1 ≤ i ∧ 0 < m then (if once = true then g.at_ (i - x.1) (m - 1) else u.at_ (i - x.1) (m - 1)) else 0) := fun u i m hm => by
    subst eF
    have h2 : m < N + 1 := by omega
    simp [h2]
  have key : ∀ k n m, n < k → k ≤ N + 1 → m ≤ N → (rowsTo F k).at_ n m = cnt once (x :: r) n m := by
    intro k n
    induction n using Nat.strongRecOn generalizing k with
    | ind n ih =>
      intro m hn hk hm
      rw [rows_at F hn, hF _ _ _ hm, cnt_cons, h n m (by omega) hm]
      congr 1
      by_cases c : x.1 ≤ n ∧ 0 < m
      · rw [if_pos c, if_pos c]
        unfold nx
        cases once
        · exact ih (n - x.1) (by omega) n (m - 1) (by omega) (by omega) (by omega)
        · exact h (n - x.1) (m - 1) (by omega) (by omega)
      · rw [if_neg c, if_neg c]
  exact fun n m hn hm => key (N + 1) n m (by omega) (by omega) hm
inductive GsOk (once : Bool) (N : Nat) : List Item → List Grid → Prop
  | nil {g : Grid} : Rep once N [] g → GsOk once N [] [g]
  | cons {x : Item} {l : List Item} {g : Grid} {gs : List Grid} : Rep once N (x :: l) g → GsOk once N l gs → GsOk once N (x :: l) (g :: gs)
theorem GsOk.head {once : Bool} {N : Nat} {l : List Item} {gs : List Grid} (h : GsOk once N l gs) : Rep once N l (gs.headD #[]) := by
  cases h with
  | nil h => exact h
  | cons h _ => exact h
theorem grids_ok (once : Bool) (N : Nat) : ∀ l : List Item, Pos l → GsOk once N l (Sq52.grids once N l)
  | [], _ => .nil (rep_nothing once N)
  | x :: l, p => by
    have ih := grids_ok once N l p.tail
    rw [Sq52.grids]
    cases e : Sq52.grids once N l with
    | nil =>
      rw [e] at ih
      cases ih
    | cons g r =>
      rw [e] at ih
      exact .cons (rep_more once N x l g p.head ih.head) ih
theorem some_W {once : Bool} {N : Nat} {l : List Item} {g : Grid} (h : Rep once N l g) {n lo hi u : Nat} (hn : n ≤ N) (hu : u ≤ hi) : g.some_ n (lo - u) (hi - u) = W once lo hi l n u := by
  unfold Sq52.Grid.some_ W S
  congr 1
  refine List.map_congr_left fun m hm => ?_
  have hm' := List.mem_range.mp hm
  by_cases c : lo ≤ u + m ∧ u + m ≤ hi
  · rw [if_pos c, if_pos (by omega), h n m hn (by omega)]
  · rw [if_neg c, if_neg (by omega)]
end Ps

set_option Elab.async false
set_option linter.all false
/-! make and number: the specification's, and the walks that the program makes -/
namespace Ps
open Sq52 (Item Grid)
/-- the set behind `ahead` others, from the list on: as a walk goes -/
inductive Pick (once : Bool) (lo hi : Nat) : List Item → Nat → Nat → Nat → List Item → Prop
  | done {l : List Item} {u k : Nat} : Pick once lo hi l 0 u k []
  | take {x : Item} {r : List Item} {n u k : Nat} {s : List Item} : 0 < n → x.1 ≤ n → k < tk once lo hi x r n u → Pick once lo hi (nx once x r) (n - x.1) (u + 1) k s → Pick once lo hi (x :: r) n u k (x :: s)
  | skip {x : Item} {r : List Item} {n u k : Nat} {s : List Item} : 0 < n → tk once lo hi x r n u ≤ k → Pick once lo hi r n u (k - tk once lo hi x r n u) s → Pick once lo hi (x :: r) n u k s
theorem nx_len (once : Bool) (x : Item) (r : List Item) : (nx once x r).length ≤ r.length + 1 := by
  unfold nx
  cases once
  · exact Nat.le_refl _
  · exact Nat.le_succ _
theorem gs_nx {once : Bool} {N : Nat} {x : Item} {l : List Item} {g : Grid} {hs : List Grid} (h : GsOk once N (x :: l) (g :: hs)) : GsOk once N (nx once x l) (if once = true then hs else g :: hs) := by
  unfold nx
  cases once
  · exact h
  · cases h with
    | cons _ h2 => exact h2
theorem make_zero (once : Bool) (f : Nat) (l : List Item) (gs : List Grid) (lo hi k : Nat) : Sq52.make once (f + 1) l gs 0 lo hi k = if lo = 0 ∧ k = 0 then some [] else none := by
  rw [Sq52.make.eq_def]
  dsimp only
  rw [if_pos rfl]
theorem make_full (once : Bool) (f : Nat) (l : List Item) (gs : List Grid) (n lo k : Nat) (hn : 0 < n) : Sq52.make once (f + 1) l gs n lo 0 k = none := by
  rw [Sq52.make.eq_def]
  dsimp only
  rw [if_neg (by omega), if_pos rfl]
theorem make_nil (once : Bool) (f : Nat) (gs : List Grid) (n lo hi k : Nat) (hn : 0 < n) : Sq52.make once (f + 1) [] gs n lo hi k = none := by
  rw [Sq52.make.eq_def]
  dsimp only
  rw [if_neg (by omega)]
  split <;> rfl
theorem make_cons (once : Bool) (f : Nat) (x : Item) (r : List Item) (g : Grid) (hs : List Grid) (n lo hi k : Nat) (hn : 0 < n) (hh : 0 < hi) : Sq52.make once (f + 1) (x :: r) (g :: hs) n lo hi k =
    if k < (if x.1 ≤ n then ((if once = true then hs else g :: hs).headD #[]).some_ (n - x.1) (lo - 1) (hi - 1) else 0) then
      (Sq52.make once f (nx once x r) (if once = true then hs else g :: hs) (n - x.1) (lo - 1) (hi - 1) k).map fun m => x :: m
    else Sq52.make once f r hs n lo hi (k - (if x.1 ≤ n then ((if once = true then hs else g :: hs).headD #[]).some_ (n - x.1) (lo - 1) (hi - 1) else 0)) := by
  rw [Sq52.make, if_neg (by omega), if_neg (by omega)]
  rfl
theorem make_ok (once : Bool) (lo hi N : Nat) : ∀ (z : Nat) (l : List Item) (f n u k : Nat) (gs : List Grid), l.length + n ≤ z → Pos l → n ≤ N → GsOk once N (fl N l) gs → (fl N l).length + n < f → u ≤ hi →
    (k < W once lo hi l n u → ∃ s, Sq52.make once f (fl N l) gs n (lo - u) (hi - u) k = some s ∧ Pick once lo hi l n u k s) ∧
    (W once lo hi l n u ≤ k → Sq52.make once f (fl N l) gs n (lo - u) (hi - u) k = none) := by
  intro z
  induction z with
  | zero =>
    intro l f n u k gs hz p hN hg hf hu
    have hn : n = 0 := by omega
    subst hn
    obtain ⟨f, rfl⟩ : ∃ g, f = g + 1 := ⟨f - 1, by omega⟩
    rw [W_zero once lo hi l u p, make_zero]
    by_cases c : lo ≤ u
    · rw [if_pos ⟨c, hu⟩]
      refine ⟨fun h => ⟨[], if_pos (by omega), .done⟩, fun h => if_neg (by omega)⟩
    · rw [if_neg (fun q => c q.1)]
      exact ⟨fun h => absurd h (by omega), fun h => if_neg (by omega)⟩
  | succ z ih =>
    intro l f n u k gs hz p hN hg hf hu
    obtain ⟨f, rfl⟩ : ∃ g, f = g + 1 := ⟨f - 1, by omega⟩
    by_cases hn : n = 0
    · subst hn
      rw [W_zero once lo hi l u p, make_zero]
      by_cases c : lo ≤ u
      · rw [if_pos ⟨c, hu⟩]
        refine ⟨fun h => ⟨[], if_pos (by omega), .done⟩, fun h => if_neg (by omega)⟩
      · rw [if_neg (fun q => c q.1)]
        exact ⟨fun h => absurd h (by omega), fun h => if_neg (by omega)⟩
    · have hn' : 0 < n := by omega
      by_cases hf' : hi - u = 0
      · rw [hf', make_full once f _ _ _ _ _ hn', W_full once lo hi l n u hn' (by omega)]
        exact ⟨fun h => absurd h (by omega), fun _ => rfl⟩
      · cases l with
        | nil =>
          rw [show fl N [] = [] from rfl, make_nil once f _ _ _ _ _ hn', W_nil, if_neg (by omega)]
          exact ⟨fun h => absurd h (by omega), fun _ => rfl⟩
        | cons x r =>
          have hx := p.head
          rw [List.length_cons] at hz
          by_cases c : x.1 ≤ N
          · rw [fl_pos c] at hg hf ⊢
            rw [List.length_cons] at hf
            cases hg with
            | @cons _ _ g hs h1 h2 =>
            have hg : GsOk once N (x :: fl N r) (g :: hs) := .cons h1 h2
            rw [make_cons once f x _ g hs n _ _ k hn' (by omega), W_cons once lo hi x r n u p]
            have hN2 := gs_nx hg
            rw [← fl_nx c] at hN2 ⊢
            have ea : (if x.1 ≤ n then ((if once = true then hs else g :: hs).headD #[]).some_ (n - x.1) (lo - u - 1) (hi - u - 1) else 0) = tk once lo hi x r n u := by
              unfold tk
              by_cases d : x.1 ≤ n
              · rw [if_pos d, if_pos d, Nat.sub_sub, Nat.sub_sub, some_W hN2.head (by omega) (by omega), W_fl once lo hi N _ _ _ (by omega)]
              · rw [if_neg d, if_neg d]
            rw [ea]
            by_cases d : k < tk once lo hi x r n u
            · rw [if_pos d]
              have hxn : x.1 ≤ n := by
                unfold tk at d
                by_cases e : x.1 ≤ n
                · exact e
                · rw [if_neg e] at d
                  omega
              have l1 := nx_len once x r
              have l2 : (fl N (nx once x r)).length ≤ (fl N r).length + 1 := by
                rw [fl_nx c]
                exact nx_len once x _
              have dW : k < W once lo hi (nx once x r) (n - x.1) (u + 1) := by
                unfold tk at d
                rw [if_pos hxn] at d
                exact d
              obtain ⟨s, e1, e2⟩ := (ih (nx once x r) f (n - x.1) (u + 1) k _ (by omega) p.nx (by omega) hN2 (by omega) (by omega)).1 dW
              refine ⟨fun _ => ⟨x :: s, ?_, .take hn' hxn d e2⟩, fun q => absurd q (by omega)⟩
              rw [Nat.sub_sub, Nat.sub_sub, e1]
              rfl
            · rw [if_neg d]
              have q := ih r f n u (k - tk once lo hi x r n u) hs (by omega) p.tail hN h2 (by omega) hu
              refine ⟨fun h => ?_, fun h => q.2 (by omega)⟩
              obtain ⟨s, e1, e2⟩ := q.1 (by omega)
              exact ⟨s, e1, .skip hn' (by omega) e2⟩
          · rw [fl_neg c] at hg hf ⊢
            have et : tk once lo hi x r n u = 0 := by
              unfold tk
              rw [if_neg (by omega)]
            have q := ih r (f + 1) n u k gs (by omega) p.tail hN hg hf hu
            rw [W_cons once lo hi x r n u p, et, Nat.add_zero]
            refine ⟨fun h => ?_, q.2⟩
            obtain ⟨s, e1, e2⟩ := q.1 h
            exact ⟨s, e1, .skip hn' (by omega) (by rw [et]; exact e2)⟩
/-- a set's number as a walk tells it -/
inductive Rank (once : Bool) (lo hi : Nat) : List Item → Nat → Nat → List Item → Nat → Prop
  | nil {l : List Item} {n u : Nat} : Rank once lo hi l n u [] 0
  | hit {x : Item} {r : List Item} {n u k : Nat} {t : List Item} : Rank once lo hi (nx once x r) (n - x.1) (u + 1) t k → Rank once lo hi (x :: r) n u (x :: t) k
  | miss {x y : Item} {r : List Item} {n u k : Nat} {t : List Item} : x ≠ y → Rank once lo hi r n u (y :: t) k → Rank once lo hi (x :: r) n u (y :: t) (tk once lo hi x r n u + k)
def sz (s : List Item) : Nat := (s.map fun z => z.1).sum
theorem sz_cons (x : Item) (t : List Item) : sz (x :: t) = x.1 + sz t := rfl
theorem number_nil (once : Bool) (f : Nat) (l : List Item) (gs : List Grid) (lo hi : Nat) : Sq52.number once f l gs lo hi [] = 0 := by
  cases f with
  | zero => rfl
  | succ f => rw [Sq52.number]; intros; contradiction
theorem number_cons (once : Bool) (f : Nat) (y : Item) (t : List Item) (x : Item) (r : List Item) (g : Grid) (hs : List Grid) (lo hi : Nat) : Sq52.number once (f + 1) (x :: r) (g :: hs) lo hi (y :: t) =
    if x = y then Sq52.number once f (nx once x r) (if once = true then hs else g :: hs) (lo - 1) (hi - 1) t
    else (if x.1 ≤ sz (y :: t) then ((if once = true then hs else g :: hs).headD #[]).some_ (sz (y :: t) - x.1) (lo - 1) (hi - 1) else 0) + Sq52.number once f r hs lo hi (y :: t) := by
  rw [Sq52.number]
  rfl
theorem number_ok (once : Bool) (lo hi N : Nat) {l : List Item} {n u : Nat} {s : List Item} {k : Nat} (h : Rank once lo hi l n u s k) : ∀ (f : Nat) (gs : List Grid), n = sz s → Pos l → n ≤ N → GsOk once N (fl N l) gs → (fl N l).length + s.length < f → u + s.length ≤ hi →
    Sq52.number once f (fl N l) gs (lo - u) (hi - u) s = k := by
  induction h with
  | nil => intro f gs _ _ _ _ _ _; exact number_nil ..
  | @hit x r n u k t _ ih =>
    intro f gs en p hN hg hf hu
    rw [sz_cons] at en
    rw [List.length_cons] at hu hf
    have c : x.1 ≤ N := by omega
    rw [fl_pos c] at hg hf ⊢
    obtain ⟨f, rfl⟩ : ∃ g, f = g + 1 := ⟨f - 1, by omega⟩
    cases hg with
    | @cons _ _ g hs h1 h2 =>
    have hg : GsOk once N (x :: fl N r) (g :: hs) := .cons h1 h2
    rw [number_cons, if_pos rfl, ← fl_nx c, Nat.sub_sub, Nat.sub_sub]
    have hN2 := gs_nx hg
    rw [← fl_nx c] at hN2
    have l2 : (fl N (nx once x r)).length ≤ (fl N r).length + 1 := by
      rw [fl_nx c]
      exact nx_len once x _
    rw [List.length_cons] at hf
    exact ih f _ (by omega) p.nx (by omega) hN2 (by omega) (by omega)
  | @miss x y r n u k t hxy _ ih =>
    intro f gs en p hN hg hf hu
    by_cases c : x.1 ≤ N
    · rw [fl_pos c] at hg hf ⊢
      obtain ⟨f, rfl⟩ : ∃ g, f = g + 1 := ⟨f - 1, by omega⟩
      cases hg with
      | @cons _ _ g hs h1 h2 =>
      have hg : GsOk once N (x :: fl N r) (g :: hs) := .cons h1 h2
      have hN2 := gs_nx hg
      rw [← fl_nx c] at hN2
      rw [number_cons, if_neg hxy]
      have hl : (y :: t).length = t.length + 1 := rfl
      rw [List.length_cons] at hf
      rw [ih f hs en p.tail hN h2 (by omega) hu]
      congr 1
      rw [← en]
      unfold tk
      by_cases d : x.1 ≤ n
      · rw [if_pos d, if_pos d, Nat.sub_sub, Nat.sub_sub, some_W hN2.head (by omega) (by omega), W_fl once lo hi N _ _ _ (by omega)]
      · rw [if_neg d, if_neg d]
    · rw [fl_neg c] at hg hf ⊢
      have et : tk once lo hi x r n u = 0 := by
        unfold tk
        rw [if_neg (by omega)]
      rw [et, Nat.zero_add]
      exact ih f gs en p.tail hN hg hf hu
/-! ### by places in a row -/
def hop (once : Bool) : Nat := if once = true then 1 else 0
theorem nx_drop (once : Bool) {row : List Item} {i : Nat} (h : i < row.length) : nx once row[i] (row.drop (i + 1)) = row.drop (i + hop once) := by
  unfold nx hop
  cases once
  · show row[i] :: row.drop (i + 1) = row.drop (i + 0)
    rw [← List.drop_eq_getElem_cons h]
    rfl
  · rfl
/-- how many ends take the thing at this place first -/
def tkAt (once : Bool) (lo hi : Nat) (row : List Item) (i n u : Nat) : Nat := match row[i]? with
  | none => 0
  | some x => if x.1 ≤ n then W once lo hi (row.drop (i + hop once)) (n - x.1) (u + 1) else 0
theorem tkAt_eq (once : Bool) (lo hi : Nat) {row : List Item} {i : Nat} (n u : Nat) (h : i < row.length) : tkAt once lo hi row i n u = tk once lo hi row[i] (row.drop (i + 1)) n u := by
  unfold tkAt tk
  rw [List.getElem?_eq_getElem h, nx_drop once h]
/-- sum over the places from start on -/
def tkSum (once : Bool) (lo hi : Nat) (row : List Item) (n u start : Nat) : Nat → Nat
  | 0 => 0
  | j + 1 => tkSum once lo hi row n u start j + tkAt once lo hi row (start + j) n u
def rankP (once : Bool) (lo hi : Nat) (row : List Item) : Nat → Nat → Nat → List Nat → Nat
  | _, _, _, [] => 0
  | start, n, u, p :: ps => tkSum once lo hi row n u start (p - start) + rankP once lo hi row (p + hop once) (n - (row.getD p (0, 0)).1) (u + 1) ps
/-- places that a set has: each late enough behind the one ahead -/
def okP (once : Bool) (L : Nat) : Nat → List Nat → Prop
  | _, [] => True
  | start, p :: ps => start ≤ p ∧ p < L ∧ okP once L (p + hop once) ps
theorem rank_tail (once : Bool) (lo hi : Nat) {row : List Item} (nd : row.Nodup) (n u : Nat) {p : Nat} (hp : p < row.length) (t : List Item) (k : Nat) : ∀ (d start : Nat), p - start = d → start ≤ p →
    Rank once lo hi (row.drop p) n u (row[p] :: t) k → Rank once lo hi (row.drop start) n u (row[p] :: t) (tkSum once lo hi row n u start d + k)
  | 0, start, e, h, R => by
    have : start = p := by omega
    subst this
    rw [show tkSum once lo hi row n u start 0 = 0 from rfl, Nat.zero_add]
    exact R
  | d + 1, start, e, h, R => by
    have hs : start < row.length := by omega
    have ih := rank_tail once lo hi nd n u hp t k d (start + 1) (by omega) (by omega) R
    have ne : row[start] ≠ row[p] := fun q => by
      have := (List.getElem_inj nd).mp q
      omega
    have m := Rank.miss (once := once) (lo := lo) (hi := hi) ne ih
    rw [List.drop_eq_getElem_cons hs]
    have es : ∀ j, tkSum once lo hi row n u start (j + 1) = tkAt once lo hi row start n u + tkSum once lo hi row n u (start + 1) j := by
      intro j
      induction j with
      | zero => show 0 + tkAt once lo hi row (start + 0) n u = tkAt once lo hi row start n u + 0; rw [Nat.add_zero]; omega
      | succ j ihj =>
        show tkSum once lo hi row n u start (j + 1) + tkAt once lo hi row (start + (j + 1)) n u = tkAt once lo hi row start n u + (tkSum once lo hi row n u (start + 1) j + tkAt once lo hi row (start + 1 + j) n u)
        rw [ihj, show start + (j + 1) = start + 1 + j by omega]
        omega
    rw [es d, tkAt_eq once lo hi n u hs, Nat.add_assoc]
    exact m
theorem rankP_rank (once : Bool) (lo hi : Nat) {row : List Item} (nd : row.Nodup) : ∀ (ps : List Nat) (start n u : Nat), okP once row.length start ps →
    Rank once lo hi (row.drop start) n u (ps.map fun p => row.getD p (0, 0)) (rankP once lo hi row start n u ps)
  | [], start, n, u, _ => .nil
  | p :: ps, start, n, u, h => by
    obtain ⟨h1, h2, h3⟩ := h
    have ih := rankP_rank once lo hi nd ps (p + hop once) (n - (row.getD p (0, 0)).1) (u + 1) h3
    have eg : row.getD p (0, 0) = row[p] := by
      rw [List.getD_eq_getElem?_getD, List.getElem?_eq_getElem h2]
      rfl
    show Rank once lo hi (row.drop start) n u (row.getD p (0, 0) :: _) (tkSum once lo hi row n u start (p - start) + rankP once lo hi row (p + hop once) (n - (row.getD p (0, 0)).1) (u + 1) ps)
    rw [eg] at ih ⊢
    refine rank_tail once lo hi nd n u h2 _ _ (p - start) start rfl h1 ?_
    rw [List.drop_eq_getElem_cons h2]
    refine .hit ?_
    rw [nx_drop once h2]
    exact ih
end Ps

set_option Elab.async false
set_option linter.all false
/-! things in order, places, the calls of sets by the ways -/
namespace Ps
open Sq52 (Item Grid)
def itemsFrom : Nat → List Nat → List Item
  | _, [] => []
  | s, m :: b => (List.range m).map (fun j => (s + 1, j)) ++ itemsFrom (s + 1) b
theorem items_range (b : List Nat) : ∀ s, ((List.range' s b.length).zip b).flatMap (fun x : Nat × Nat => (List.range x.2).map fun j => (x.1 + 1, j)) = itemsFrom s b := by
  induction b with
  | nil => intro s; rfl
  | cons m b ih =>
    intro s
    rw [List.length_cons, List.range'_succ, List.zip_cons_cons, List.flatMap_cons, ih (s + 1)]
    rfl
theorem items_eq (b : List Nat) : Sq52.itemsOf b = itemsFrom 0 b := by
  unfold Sq52.itemsOf
  rw [List.range_eq_range']
  exact items_range b 0
theorem items_append : ∀ (a c : List Nat) (s : Nat), itemsFrom s (a ++ c) = itemsFrom s a ++ itemsFrom (s + a.length) c
  | [], c, s => rfl
  | m :: a, c, s => by
    show (List.range m).map _ ++ itemsFrom (s + 1) (a ++ c) = ((List.range m).map _ ++ itemsFrom (s + 1) a) ++ itemsFrom (s + (a.length + 1)) c
    rw [items_append a c (s + 1), List.append_assoc, show s + 1 + a.length = s + (a.length + 1) by omega]
theorem items_take {b : List Nat} {i m : Nat} (h : b[i]? = some m) : Sq52.itemsOf (b.take (i + 1)) = Sq52.itemsOf (b.take i) ++ (List.range m).map (fun j => (i + 1, j)) := by
  have hi := (List.getElem?_eq_some_iff.mp h).1
  have e : b.take (i + 1) = b.take i ++ [m] := by
    rw [List.take_add_one, h]
    rfl
  rw [items_eq, items_eq, e, items_append, List.length_take, Nat.min_eq_left (by omega)]
  show _ ++ ((List.range m).map (fun j => (0 + i + 1, j)) ++ []) = _
  rw [List.append_nil, Nat.zero_add]
theorem items_len : ∀ (b : List Nat) (s : Nat), (itemsFrom s b).length = b.sum
  | [], _ => rfl
  | m :: b, s => by
    show ((List.range m).map _ ++ itemsFrom (s + 1) b).length = m + b.sum
    rw [List.length_append, List.length_map, List.length_range, items_len b (s + 1)]
theorem itemsOf_len (b : List Nat) : (Sq52.itemsOf b).length = b.sum := by rw [items_eq, items_len]
def ltI (a b : Item) : Prop := a.1 < b.1 ∨ (a.1 = b.1 ∧ a.2 < b.2)
theorem items_ge : ∀ (b : List Nat) (s : Nat), ∀ x ∈ itemsFrom s b, s < x.1
  | [], s, x, h => by cases h
  | m :: b, s, x, h => by
    rcases List.mem_append.mp h with h | h
    · obtain ⟨j, _, rfl⟩ := List.mem_map.mp h
      exact Nat.lt_succ_self s
    · exact Nat.lt_of_succ_lt (items_ge b (s + 1) x h)
theorem items_sorted : ∀ (b : List Nat) (s : Nat), (itemsFrom s b).Pairwise ltI
  | [], _ => .nil
  | m :: b, s => by
    refine List.pairwise_append.mpr ⟨?_, items_sorted b (s + 1), fun x hx y hy => ?_⟩
    · rw [List.pairwise_map]
      exact List.Pairwise.imp (fun h => .inr ⟨rfl, h⟩) List.pairwise_lt_range
    · obtain ⟨j, _, rfl⟩ := List.mem_map.mp hx
      exact .inl (items_ge b (s + 1) y hy)
theorem row_sorted (b : List Nat) : (Sq52.itemsOf b).Pairwise ltI := by
  rw [items_eq]
  exact items_sorted b 0
theorem row_pos (b : List Nat) : Pos (Sq52.itemsOf b) := fun x hx => by
  rw [items_eq] at hx
  exact items_ge b 0 x hx
theorem ltI_irr (a : Item) : ¬ ltI a a := fun h => by
  rcases h with h | ⟨_, h⟩ <;> omega
theorem ltI_trans {a b c : Item} (h1 : ltI a b) (h2 : ltI b c) : ltI a c := by
  unfold ltI at *
  omega
theorem sorted_nodup {l : List Item} (h : l.Pairwise ltI) : l.Nodup := List.Pairwise.imp (R := ltI) (S := fun a b => a ≠ b) (fun {a b} q => by
  intro e
  rw [e] at q
  exact ltI_irr b q) h
theorem sorted_lt {l : List Item} (h : l.Pairwise ltI) {i j : Nat} (hi : i < l.length) (hj : j < l.length) : ltI l[i] l[j] ↔ i < j := by
  constructor
  · intro q
    rcases Nat.lt_trichotomy i j with e | e | e
    · exact e
    · subst e
      exact absurd q (ltI_irr _)
    · exact absurd (ltI_trans q (List.pairwise_iff_getElem.mp h j i hj hi e)) (ltI_irr _)
  · exact fun e => List.pairwise_iff_getElem.mp h i j hi hj e
/-! ### places -/
def plc (row : List Item) (x : Item) : Option Nat := if row.idxOf x < row.length then some (row.idxOf x) else none
theorem plc_some {row : List Item} {x : Item} {i : Nat} (h : plc row x = some i) : i < row.length ∧ row[i]? = some x := by
  unfold plc at h
  by_cases c : row.idxOf x < row.length
  · rw [if_pos c] at h
    have e := Option.some.inj h
    subst e
    exact ⟨c, by rw [List.getElem?_eq_getElem c, List.getElem_idxOf]⟩
  · rw [if_neg c] at h
    cases h
theorem plc_none {row : List Item} {x : Item} (h : plc row x = none) : x ∉ row := by
  unfold plc at h
  intro m
  rw [if_pos (List.idxOf_lt_length_of_mem m)] at h
  cases h
theorem plc_of {row : List Item} (nd : row.Nodup) {x : Item} {i : Nat} (h : row[i]? = some x) : plc row x = some i := by
  obtain ⟨hi, e⟩ := List.getElem?_eq_some_iff.mp h
  cases q : plc row x with
  | none => exact absurd (e ▸ List.getElem_mem hi) (plc_none q)
  | some j =>
    obtain ⟨hj, ej⟩ := plc_some q
    obtain ⟨_, ej⟩ := List.getElem?_eq_some_iff.mp ej
    have := (List.getElem_inj nd (h₀ := hi) (h₁ := hj)).mp (e.trans ej.symm)
    rw [this]
def placesOf (row : List Item) : List Item → Option (List Nat)
  | [] => some []
  | x :: t => match plc row x with
    | none => none
    | some i => (placesOf row t).map fun ps => i :: ps
theorem placesOf_append (row : List Item) (x : Item) : ∀ (s : List Item) (ps : List Nat) (i : Nat), placesOf row s = some ps → plc row x = some i → placesOf row (s ++ [x]) = some (ps ++ [i])
  | [], ps, i, h, hx => by
    have e := Option.some.inj h
    subst e
    show (match plc row x with | none => none | some i => (placesOf row []).map fun ps => i :: ps) = _
    rw [hx]
    rfl
  | y :: t, ps, i, h, hx => by
    show (match plc row y with | none => none | some j => (placesOf row (t ++ [x])).map fun ps => j :: ps) = _
    change (match plc row y with | none => none | some j => (placesOf row t).map fun ps => j :: ps) = some ps at h
    cases q : plc row y with
    | none => rw [q] at h; cases h
    | some j =>
      rw [q] at h
      dsimp only at h ⊢
      cases e : placesOf row t with
      | none => rw [e] at h; cases h
      | some qs =>
        rw [e] at h
        have e2 := Option.some.inj h
        subst e2
        rw [placesOf_append row x t qs i e hx]
        rfl
theorem placesOf_none (row : List Item) (x : Item) (hx : plc row x = none) : ∀ (s t : List Item), placesOf row (s ++ x :: t) = none
  | [], t => by
    show (match plc row x with | none => none | some i => (placesOf row t).map fun ps => i :: ps) = _
    rw [hx]
  | y :: s, t => by
    show (match plc row y with | none => none | some j => (placesOf row (s ++ x :: t)).map fun ps => j :: ps) = _
    rw [placesOf_none row x hx s t]
    split <;> rfl
theorem placesOf_len {row : List Item} : ∀ {s : List Item} {ps : List Nat}, placesOf row s = some ps → ps.length = s.length
  | [], ps, h => by
    have e := Option.some.inj h
    subst e
    rfl
  | x :: t, ps, h => by
    change (match plc row x with | none => none | some j => (placesOf row t).map fun ps => j :: ps) = some ps at h
    cases q : plc row x with
    | none => rw [q] at h; cases h
    | some j =>
      rw [q] at h
      cases e : placesOf row t with
      | none => rw [e] at h; cases h
      | some qs =>
        rw [e] at h
        have e2 := Option.some.inj h
        subst e2
        rw [List.length_cons, List.length_cons, placesOf_len e]
def inOrd (once : Bool) : List Nat → Bool
  | a :: b :: l => decide (a + hop once ≤ b) && inOrd once (b :: l)
  | _ => true
/-- is it a set: by its places -/
def setP (once : Bool) (row : List Item) (lo hi : Nat) (s : List Item) : Bool := match placesOf row s with
  | none => false
  | some ps => inOrd once ps && (decide (lo ≤ s.length) && decide (s.length ≤ hi))
theorem placesOf_cons {row : List Item} {x : Item} {t : List Item} {ps : List Nat} (h : placesOf row (x :: t) = some ps) : ∃ i qs, plc row x = some i ∧ placesOf row t = some qs ∧ ps = i :: qs := by
  change (match plc row x with | none => none | some j => (placesOf row t).map fun ps => j :: ps) = some ps at h
  cases q : plc row x with
  | none => rw [q] at h; cases h
  | some j =>
    rw [q] at h
    cases e : placesOf row t with
    | none => rw [e] at h; cases h
    | some qs =>
      rw [e] at h
      have e2 := Option.some.inj h
      exact ⟨j, qs, rfl, rfl, e2.symm⟩
theorem step_ord (once : Bool) {row : List Item} (hs : row.Pairwise ltI) {x y : Item} {i j : Nat} (hx : plc row x = some i) (hy : plc row y = some j) :
    (decide (x.1 < y.1) || (x.1 == y.1 && (if once = true then decide (x.2 < y.2) else decide (x.2 ≤ y.2)))) = decide (i + hop once ≤ j) := by
  obtain ⟨hi, ei⟩ := plc_some hx
  obtain ⟨hj, ej⟩ := plc_some hy
  obtain ⟨_, ei⟩ := List.getElem?_eq_some_iff.mp ei
  obtain ⟨_, ej⟩ := List.getElem?_eq_some_iff.mp ej
  have h1 := sorted_lt hs hi hj
  have h2 := sorted_lt hs hj hi
  rw [ei, ej] at h1
  rw [ei, ej] at h2
  unfold ltI at h1 h2
  have h3 : i = j → x = y := fun e => by
    subst e
    exact ei.symm.trans ej
  rw [Bool.eq_iff_iff]
  cases once
  · simp only [Bool.or_eq_true, Bool.and_eq_true, decide_eq_true_eq, beq_iff_eq, hop, Bool.false_eq_true, if_false]
    constructor
    · intro q
      by_cases c : j < i
      · have := h2.mpr c
        omega
      · omega
    · intro q
      by_cases c : i = j
      · have := h3 c
        rw [this]
        omega
      · have := h1.mpr (by omega)
        omega
  · simp only [Bool.or_eq_true, Bool.and_eq_true, decide_eq_true_eq, beq_iff_eq, hop, if_true]
    exact ⟨fun q => by have := h1.mp q; omega, fun q => h1.mpr (by omega)⟩
theorem inOrder_ord (once : Bool) {row : List Item} (hs : row.Pairwise ltI) : ∀ (s : List Item) (ps : List Nat), placesOf row s = some ps → Sq52.inOrder once s = inOrd once ps
  | [], ps, h => by
    have e := Option.some.inj h
    subst e
    rfl
  | [x], ps, h => by
    obtain ⟨i, qs, h1, h2, rfl⟩ := placesOf_cons h
    have e := Option.some.inj h2
    subst e
    rfl
  | x :: y :: t, ps, h => by
    obtain ⟨i, qs, h1, h2, rfl⟩ := placesOf_cons h
    have ih := inOrder_ord once hs (y :: t) qs h2
    obtain ⟨j, rs, h3, h4, rfl⟩ := placesOf_cons h2
    show ((decide (x.1 < y.1) || (x.1 == y.1 && (if once = true then decide (x.2 < y.2) else decide (x.2 ≤ y.2)))) && Sq52.inOrder once (y :: t)) = (decide (i + hop once ≤ j) && inOrd once (j :: rs))
    rw [ih, step_ord once hs h1 h3]
theorem all_places (row : List Item) : ∀ s : List Item, s.all (fun x => row.contains x) = (placesOf row s).isSome
  | [] => rfl
  | x :: t => by
    rw [List.all_cons, all_places row t]
    show _ = (match plc row x with | none => none | some j => (placesOf row t).map fun ps => j :: ps).isSome
    cases q : plc row x with
    | none =>
      have : row.contains x = false := by
        rw [Bool.eq_false_iff]
        intro m
        exact plc_none q (List.contains_iff_mem.mp m)
      rw [this]
      rfl
    | some j =>
      have : row.contains x = true := List.contains_iff_mem.mpr (by
        obtain ⟨hj, e⟩ := plc_some q
        exact List.mem_of_getElem? e)
      rw [this]
      dsimp only
      rw [Option.isSome_map, Bool.true_and]
theorem isSet_setP (once : Bool) (b : List Nat) (lo hi : Nat) (s : List Item) : Sq52.isSet once b lo hi s = setP once (Sq52.itemsOf b) lo hi s := by
  unfold Sq52.isSet setP
  rw [all_places]
  cases e : placesOf (Sq52.itemsOf b) s with
  | none => simp
  | some ps =>
    rw [inOrder_ord once (row_sorted b) s ps e]
    rfl
theorem ord_ok (once : Bool) {row : List Item} : ∀ (s : List Item) (ps : List Nat) (start : Nat), placesOf row s = some ps → inOrd once ps = true → (∀ p, ps.head? = some p → start ≤ p) → okP once row.length start ps ∧ ps.map (fun p => row.getD p (0, 0)) = s
  | [], ps, start, h, _, _ => by
    have e := Option.some.inj h
    subst e
    exact ⟨trivial, rfl⟩
  | x :: t, ps, start, h, ho, hs => by
    obtain ⟨i, qs, h1, h2, rfl⟩ := placesOf_cons h
    obtain ⟨hi, ei⟩ := plc_some h1
    have hq : inOrd once qs = true ∧ ∀ p, qs.head? = some p → i + hop once ≤ p := by
      cases qs with
      | nil => exact ⟨rfl, fun p e => by cases e⟩
      | cons j rs =>
        change (decide (i + hop once ≤ j) && inOrd once (j :: rs)) = true at ho
        rw [Bool.and_eq_true, decide_eq_true_eq] at ho
        exact ⟨ho.2, fun p e => by cases e; exact ho.1⟩
    obtain ⟨k1, k2⟩ := ord_ok once t qs (i + hop once) h2 hq.1 hq.2
    refine ⟨⟨hs i rfl, hi, k1⟩, ?_⟩
    rw [List.map_cons, k2]
    congr 1
    rw [List.getD_eq_getElem?_getD, ei]
    rfl
/-! ### the calls of sets -/
def Good (h : List Nat) : Prop := h.length ≤ 60 ∧ h.sum ≤ 60
theorem good_fresh : Good Sq52.fresh := ⟨by decide, by decide⟩
def cntW (h : List Nat) (o n lo hi : Nat) : Nat := W (o == 1) lo hi (Sq52.itemsOf h) n 0
theorem asked_eq {h : List Nat} (o n lo hi : Nat) (f : List Item → List Grid → Nat → Sq52.Out) (ho : o ≤ 1) (hn : n ≤ 60) : ∃ gs, GsOk (o == 1) n (fl n (Sq52.itemsOf h)) gs ∧
    Sq52.House.asked h o n lo hi f = if 10 ^ 18 < cntW h o n lo hi then (h, Sq52.says (-7)) else (h, f (fl n (Sq52.itemsOf h)) gs (cntW h o n lo hi)) := by
  have g := grids_ok (o == 1) n (fl n (Sq52.itemsOf h)) ((row_pos h).fl n)
  refine ⟨_, g, ?_⟩
  have e : ((Sq52.grids (o == 1) n (fl n (Sq52.itemsOf h))).headD #[]).some_ n lo hi = cntW h o n lo hi := by
    have q := some_W g.head (lo := lo) (hi := hi) (u := 0) (Nat.le_refl n) (Nat.zero_le _)
    rw [W_fl _ _ _ _ _ _ _ (Nat.le_refl n)] at q
    exact q
  unfold Sq52.House.asked
  rw [if_neg (show ¬ (1 < o ∨ Sq52.SIZE < n) from fun q => by
    have : Sq52.SIZE = 60 := rfl
    omega)]
  show (if Sq52.MANY < ((Sq52.grids (o == 1) n (fl n (Sq52.itemsOf h))).headD #[]).some_ n lo hi then (h, Sq52.says (-7)) else (h, f (fl n (Sq52.itemsOf h)) (Sq52.grids (o == 1) n (fl n (Sq52.itemsOf h))) (((Sq52.grids (o == 1) n (fl n (Sq52.itemsOf h))).headD #[]).some_ n lo hi))) = _
  rw [e]
  rfl
theorem asked_bad {h : List Nat} (o n lo hi : Nat) (f : List Item → List Grid → Nat → Sq52.Out) (hb : 1 < o ∨ 60 < n) : Sq52.House.asked h o n lo hi f = (h, Sq52.says (-1)) := by
  unfold Sq52.House.asked
  exact if_pos hb
theorem fl_len (n : Nat) (l : List Item) : (fl n l).length ≤ l.length := List.length_filter_le ..
theorem spec_make {h : List Nat} (g : Good h) {o n lo hi : Nat} {gs : List Grid} (hg : GsOk (o == 1) n (fl n (Sq52.itemsOf h)) gs) (hn : n ≤ 60) (k : Nat) :
    (k < cntW h o n lo hi → ∃ s, Sq52.make (o == 1) Sq52.FUEL (fl n (Sq52.itemsOf h)) gs n lo hi k = some s ∧ Pick (o == 1) lo hi (Sq52.itemsOf h) n 0 k s) ∧
    (cntW h o n lo hi ≤ k → Sq52.make (o == 1) Sq52.FUEL (fl n (Sq52.itemsOf h)) gs n lo hi k = none) := by
  have l1 := fl_len n (Sq52.itemsOf h)
  rw [itemsOf_len] at l1
  have l2 := g.2
  exact make_ok (o == 1) lo hi n _ (Sq52.itemsOf h) Sq52.FUEL n 0 k gs (Nat.le_refl _) (row_pos h) (Nat.le_refl n) hg (by show _ < 1000; omega) (Nat.zero_le _)
theorem sz_ge : ∀ (s : List Item), Pos s → s.length ≤ sz s
  | [], _ => Nat.le_refl _
  | x :: t, p => by
    have := sz_ge t p.tail
    have := p.head
    rw [sz_cons, List.length_cons]
    omega
theorem places_pos {row : List Item} (p : Pos row) : ∀ {s : List Item} {ps : List Nat}, placesOf row s = some ps → Pos s
  | [], _, _ => fun x hx => by cases hx
  | x :: t, ps, h => by
    obtain ⟨i, qs, h1, h2, rfl⟩ := placesOf_cons h
    intro y hy
    rcases List.mem_cons.mp hy with e | m
    · rw [e]
      exact p x (List.mem_of_getElem? (plc_some h1).2)
    · exact places_pos p h2 y m
theorem spec_number {h : List Nat} (g : Good h) {o lo hi : Nat} {s : List Item} {ps : List Nat} (hp : placesOf (Sq52.itemsOf h) s = some ps) (ho : inOrd (o == 1) ps = true) (hn : sz s ≤ 60) (hl : s.length ≤ hi) {gs : List Grid} (hg : GsOk (o == 1) (sz s) (fl (sz s) (Sq52.itemsOf h)) gs) :
    Sq52.number (o == 1) Sq52.FUEL (fl (sz s) (Sq52.itemsOf h)) gs lo hi s = rankP (o == 1) lo hi (Sq52.itemsOf h) 0 (sz s) 0 ps := by
  obtain ⟨k1, k2⟩ := ord_ok (o == 1) s ps 0 hp ho (fun _ _ => Nat.zero_le _)
  have R := rankP_rank (o == 1) lo hi (sorted_nodup (row_sorted h)) ps 0 (sz s) 0 k1
  rw [k2, List.drop_zero] at R
  have l1 := fl_len (sz s) (Sq52.itemsOf h)
  rw [itemsOf_len] at l1
  have l2 := g.2
  have l3 := sz_ge s (places_pos (row_pos h) hp)
  exact number_ok (o == 1) lo hi (sz s) R Sq52.FUEL gs rfl (row_pos h) (Nat.le_refl _) hg (by show _ < 1000; omega) (by omega)
end Ps

set_option Elab.async false
set_option linter.all false
/-! Partitions: facts about the specification's own functions. No Python here. -/
namespace Ps
def Desc (l : List Nat) : Prop := l.Pairwise fun a b => b ≤ a
theorem insert_perm (a : Nat) : ∀ l : List Nat, (Sq52.insert a l).Perm (a :: l)
  | [] => .refl _
  | b :: l => by
    show (if b ≤ a then a :: b :: l else b :: Sq52.insert a l).Perm (a :: b :: l)
    by_cases c : b ≤ a
    · rw [if_pos c]
    · rw [if_neg c]
      exact ((insert_perm a l).cons b).trans (.swap ..)
theorem insert_desc (a : Nat) : ∀ l : List Nat, Desc l → Desc (Sq52.insert a l)
  | [], _ => List.pairwise_singleton ..
  | b :: l, h => by
    show Desc (if b ≤ a then a :: b :: l else b :: Sq52.insert a l)
    obtain ⟨h1, h2⟩ := List.pairwise_cons.mp h
    by_cases c : b ≤ a
    · rw [if_pos c]
      refine List.pairwise_cons.mpr ⟨fun x hx => ?_, h⟩
      rcases List.mem_cons.mp hx with e | m
      · omega
      · have := h1 x m
        omega
    · rw [if_neg c]
      refine List.pairwise_cons.mpr ⟨fun x hx => ?_, insert_desc a l h2⟩
      rcases List.mem_cons.mp ((insert_perm a l).mem_iff.mp hx) with e | m
      · omega
      · exact h1 x m
theorem sorted_go : ∀ (l m : List Nat), Desc m → Desc (l.foldl (fun m a => Sq52.insert a m) m) ∧ (l.foldl (fun m a => Sq52.insert a m) m).Perm (l ++ m)
  | [], m, h => ⟨h, .refl _⟩
  | a :: l, m, h => by
    obtain ⟨h1, h2⟩ := sorted_go l (Sq52.insert a m) (insert_desc a m h)
    refine ⟨h1, h2.trans ?_⟩
    exact ((insert_perm a m).append_left l).trans List.perm_middle
theorem sorted_desc (l : List Nat) : Desc (Sq52.sorted l) := (sorted_go l [] .nil).1
theorem sorted_perm (l : List Nat) : (Sq52.sorted l).Perm l := by
  have := (sorted_go l [] .nil).2
  rw [List.append_nil] at this
  exact this
theorem desc_unique {l m : List Nat} (p : l.Perm m) (h1 : Desc l) (h2 : Desc m) : l = m :=
  p.eq_of_pairwise (fun a b _ _ x y => by omega) h1 h2
theorem sorted_is {l m : List Nat} (p : m.Perm l) (h : Desc m) : Sq52.sorted l = m := desc_unique ((sorted_perm l).trans p.symm) (sorted_desc l) h
theorem part_iff : ∀ l : List Nat, Sq52.isPartition l = true ↔ (∀ a ∈ l, 0 < a) ∧ Desc l
  | [] => by
    refine ⟨fun _ => ⟨fun a h => (by cases h), .nil⟩, fun _ => rfl⟩
  | [a] => by
    show decide (0 < a) = true ↔ _
    rw [decide_eq_true_eq]
    exact ⟨fun h => ⟨fun b hb => by rw [List.mem_singleton.mp hb]; exact h, List.pairwise_singleton ..⟩, fun h => h.1 a (List.mem_singleton.mpr rfl)⟩
  | a :: b :: l => by
    show (decide (b ≤ a) && Sq52.isPartition (b :: l)) = true ↔ _
    rw [Bool.and_eq_true, decide_eq_true_eq, part_iff (b :: l)]
    constructor
    · rintro ⟨h1, h2, h3⟩
      refine ⟨fun x hx => ?_, List.pairwise_cons.mpr ⟨fun x hx => ?_, h3⟩⟩
      · rcases List.mem_cons.mp hx with e | m
        · have := h2 b (List.mem_cons_self ..)
          omega
        · exact h2 x m
      · rcases List.mem_cons.mp hx with e | m
        · omega
        · have := (List.pairwise_cons.mp h3).1 x m
          omega
    · rintro ⟨h1, h2⟩
      obtain ⟨k1, k2⟩ := List.pairwise_cons.mp h2
      exact ⟨k1 b (List.mem_cons_self ..), fun x hx => h1 x (List.mem_cons_of_mem _ hx), k2⟩
theorem diff_iff : ∀ l : List Nat, Sq52.different l = true ↔ l.Pairwise fun a b => b < a
  | [] => ⟨fun _ => .nil, fun _ => rfl⟩
  | [a] => ⟨fun _ => List.pairwise_singleton .., fun _ => rfl⟩
  | a :: b :: l => by
    show (decide (b < a) && Sq52.different (b :: l)) = true ↔ _
    rw [Bool.and_eq_true, decide_eq_true_eq, diff_iff (b :: l)]
    constructor
    · rintro ⟨h1, h3⟩
      refine List.pairwise_cons.mpr ⟨fun x hx => ?_, h3⟩
      rcases List.mem_cons.mp hx with e | m
      · omega
      · have := (List.pairwise_cons.mp h3).1 x m
        omega
    · intro h2
      obtain ⟨k1, k2⟩ := List.pairwise_cons.mp h2
      exact ⟨k1 b (List.mem_cons_self ..), k2⟩
/-- the odd part: what is left when twos are taken out -/
theorem oddPart_ok : ∀ (f a : Nat), 0 < a → a ≤ f → Sq52.oddPart f a % 2 = 1 ∧ ∃ k, a = Sq52.oddPart f a * 2 ^ k
  | 0, a, h, h2 => by omega
  | f + 1, a, h, h2 => by
    show (if a = 0 ∨ a % 2 = 1 then a else Sq52.oddPart f (a / 2)) % 2 = 1 ∧ ∃ k, a = (if a = 0 ∨ a % 2 = 1 then a else Sq52.oddPart f (a / 2)) * 2 ^ k
    by_cases c : a = 0 ∨ a % 2 = 1
    · rw [if_pos c]
      exact ⟨by omega, 0, by rw [Nat.pow_zero, Nat.mul_one]⟩
    · rw [if_neg c]
      obtain ⟨h3, k, h4⟩ := oddPart_ok f (a / 2) (by omega) (by omega)
      refine ⟨h3, k + 1, ?_⟩
      rw [Nat.pow_succ, ← Nat.mul_assoc, ← h4]
      omega
/-- one more part of two: the same odd part -/
theorem oddPart_fuel : ∀ (f g a : Nat), 0 < a → a ≤ f → a ≤ g → Sq52.oddPart f a = Sq52.oddPart g a
  | 0, _, a, h, h2, _ => by omega
  | _, 0, a, h, _, h2 => by omega
  | f + 1, g + 1, a, h, h1, h2 => by
    show (if a = 0 ∨ a % 2 = 1 then a else Sq52.oddPart f (a / 2)) = (if a = 0 ∨ a % 2 = 1 then a else Sq52.oddPart g (a / 2))
    by_cases c : a = 0 ∨ a % 2 = 1
    · rw [if_pos c, if_pos c]
    · rw [if_neg c, if_neg c]
      exact oddPart_fuel f g (a / 2) (by omega) (by omega) (by omega)
theorem len_le_sum : ∀ l : List Nat, (∀ a ∈ l, 0 < a) → l.length ≤ l.sum
  | [], _ => Nat.le_refl _
  | a :: l, h => by
    have := len_le_sum l fun x hx => h x (List.mem_cons_of_mem _ hx)
    have := h a (List.mem_cons_self ..)
    rw [List.length_cons, List.sum_cons]
    omega
theorem mem_le_sum : ∀ (l : List Nat) (a : Nat), a ∈ l → a ≤ l.sum
  | b :: l, a, h => by
    rw [List.sum_cons]
    rcases List.mem_cons.mp h with e | m
    · omega
    · have := mem_le_sum l a m
      omega
end Ps

set_option Elab.async false
set_option linter.all false
/-! Partitions by the program's ways; the rank of a set is below how many there are. No Python here. -/
namespace Ps
open Sq52 (Item)
theorem rank_lt (once : Bool) (lo hi : Nat) {l : List Item} {n u : Nat} {s : List Item} {k : Nat} (h : Rank once lo hi l n u s k) : n = sz s → Pos l → lo ≤ u + s.length → u + s.length ≤ hi → k < W once lo hi l n u := by
  induction h with
  | nil =>
    intro e p h1 h2
    have e : _ = 0 := e
    subst e
    rw [W_zero once lo hi _ _ p, if_pos ⟨by simpa using h1, by simpa using h2⟩]
    exact Nat.zero_lt_one
  | @hit x r n u k t R ih =>
    intro e p h1 h2
    rw [sz_cons] at e
    rw [List.length_cons] at h1 h2
    have q := ih (by omega) p.nx (by omega) (by omega)
    rw [W_cons once lo hi x r n u p]
    have : tk once lo hi x r n u = W once lo hi (nx once x r) (n - x.1) (u + 1) := by
      unfold tk
      rw [if_pos (by omega)]
    omega
  | @miss x y r n u k t ne R ih =>
    intro e p h1 h2
    have q := ih e p.tail h1 h2
    rw [W_cons once lo hi x r n u p]
    omega
/-! ### turned about, the square, the diagonal -/
theorem head_max {l : List Nat} (d : Desc l) {m : Nat} (hm : m ∈ l) (h : ∀ y ∈ l, y ≤ m) : l.headD 0 = m := by
  cases l with
  | nil => cases hm
  | cons a r =>
    have h1 := h a (List.mem_cons_self ..)
    show a = m
    rcases List.mem_cons.mp hm with e | e
    · exact e.symm
    · have := (List.pairwise_cons.mp d).1 m e
      omega
def reach (l : List Nat) (least : Nat) : Nat := (l.filter fun a => decide (least ≤ a)).length
theorem turned_eq (l : List Nat) : Sq52.turned l = (List.range (l.headD 0)).map fun i => reach l (i + 1) := rfl
theorem turned_len (l : List Nat) : (Sq52.turned l).length = l.headD 0 := by
  rw [turned_eq, List.length_map, List.length_range]
theorem turned_get {l : List Nat} {i : Nat} (h : i < l.headD 0) : (Sq52.turned l)[i]? = some (reach l (i + 1)) := by
  rw [turned_eq, List.getElem?_map, List.getElem?_range h]
  rfl
/-- the parts that are counted for the square -/
def sqr (l : List Nat) (i : Nat) : List (Nat × Nat) := (((List.range l.length).zip l).take i).filter fun x => decide (x.1 < x.2)
theorem square_eq (l : List Nat) : Sq52.square l = (sqr l l.length).length := by
  unfold sqr Sq52.square
  rw [List.take_of_length_le (by rw [List.length_zip, List.length_range]; omega)]
theorem zip_get {l : List Nat} {i a : Nat} (h : l[i]? = some a) : ((List.range l.length).zip l)[i]? = some (i, a) := by
  have hl := (List.getElem?_eq_some_iff.mp h).1
  rw [List.getElem?_zip_eq_some]
  exact ⟨List.getElem?_range hl, h⟩
theorem sqr_step {l : List Nat} {i a : Nat} (h : l[i]? = some a) : sqr l (i + 1) = sqr l i ++ (if i < a then [(i, a)] else []) := by
  unfold sqr
  rw [List.take_add_one, zip_get h, List.filter_append]
  congr 1
  show List.filter _ [(i, a)] = _
  by_cases c : i < a
  · rw [if_pos c, List.filter_cons_of_pos (by simpa using c)]
    rfl
  · rw [if_neg c, List.filter_cons_of_neg (by simpa using c)]
    rfl
theorem sqr_len (l : List Nat) (i : Nat) : (sqr l i).length ≤ i := by
  unfold sqr
  exact Nat.le_trans (List.length_filter_le ..) (by rw [List.length_take]; omega)
theorem desc_get {l : List Nat} (d : Desc l) {i j a b : Nat} (h : i ≤ j) (ha : l[i]? = some a) (hb : l[j]? = some b) : b ≤ a := by
  obtain ⟨h1, e1⟩ := List.getElem?_eq_some_iff.mp ha
  obtain ⟨h2, e2⟩ := List.getElem?_eq_some_iff.mp hb
  by_cases c : i = j
  · subst c
    omega
  · have := List.pairwise_iff_getElem.mp d i j h1 h2 (by omega)
    omega
/-- behind a part that is too small none is counted -/
theorem sqr_stop {l : List Nat} (d : Desc l) {i : Nat} (h : ∀ a, l[i]? = some a → a ≤ i) : ∀ k, (sqr l (i + k)).length ≤ i
  | 0 => sqr_len l i
  | k + 1 => by
    have ih := sqr_stop d h k
    cases e : l[i + k]? with
    | none =>
      have hl : l.length ≤ i + k := List.getElem?_eq_none_iff.mp e
      have : sqr l (i + (k + 1)) = sqr l (i + k) := by
        unfold sqr
        rw [List.take_of_length_le (by rw [List.length_zip, List.length_range]; omega), List.take_of_length_le (by rw [List.length_zip, List.length_range]; omega)]
      rw [this]
      exact ih
    | some a =>
      rw [show i + (k + 1) = i + k + 1 by omega, sqr_step e]
      have hi : ∃ b, l[i]? = some b := by
        have := (List.getElem?_eq_some_iff.mp e).1
        exact ⟨_, List.getElem?_eq_getElem (by omega)⟩
      obtain ⟨b, hb⟩ := hi
      have h1 := h b hb
      have h2 := desc_get d (by omega) hb e
      rw [if_neg (by omega), List.append_nil]
      exact ih
theorem square_at {l : List Nat} (d : Desc l) {i : Nat} (h : i < Sq52.square l) : ∃ a, l[i]? = some a ∧ i < a := by
  rw [square_eq] at h
  have hl : i < l.length := Nat.lt_of_lt_of_le h (sqr_len ..)
  refine ⟨l[i], List.getElem?_eq_getElem hl, ?_⟩
  by_cases c : i < l[i]
  · exact c
  · exfalso
    have := sqr_stop d (i := i) (fun a ha => by
      rw [List.getElem?_eq_getElem hl] at ha
      have := Option.some.inj ha
      omega) (l.length - i)
    rw [show i + (l.length - i) = l.length by omega] at this
    omega
theorem square_le (l : List Nat) : Sq52.square l ≤ l.length := by
  rw [square_eq]
  exact sqr_len ..
theorem reach_ge {l : List Nat} (d : Desc l) {i a : Nat} (ha : l[i]? = some a) (h : i < a) : i + 1 ≤ reach l (i + 1) := by
  unfold reach
  have hl := (List.getElem?_eq_some_iff.mp ha).1
  have e : l = l.take (i + 1) ++ l.drop (i + 1) := (List.take_append_drop ..).symm
  have h1 : (l.take (i + 1)).filter (fun a => decide (i + 1 ≤ a)) = l.take (i + 1) := List.filter_eq_self.mpr fun b hb => by
    obtain ⟨j, hj, ej⟩ := List.getElem_of_mem hb
    rw [List.length_take] at hj
    rw [List.getElem_take] at ej
    have hb2 : l[j]? = some b := by
      rw [List.getElem?_eq_getElem (by omega), ej]
    have := desc_get d (by omega) hb2 ha
    exact decide_eq_true (by omega)
  have h2 : (l.filter fun a => decide (i + 1 ≤ a)).length = ((l.take (i + 1)).filter (fun a => decide (i + 1 ≤ a))).length + ((l.drop (i + 1)).filter (fun a => decide (i + 1 ≤ a))).length := by
    rw [← List.length_append, ← List.filter_append, List.take_append_drop]
  rw [h2, h1, List.length_take]
  omega
theorem head_ge {l : List Nat} (d : Desc l) {i a : Nat} (ha : l[i]? = some a) : a ≤ l.headD 0 := by
  cases l with
  | nil => cases ha
  | cons b r => exact desc_get d (Nat.zero_le i) (show (b :: r)[0]? = some b from rfl) ha
/-- what the diagonal tells, flat -/
def dg (l : List Nat) (i : Nat) : List Int := (List.range i).flatMap fun i => [(((l[i]?).getD 0 - (i + 1) : Nat) : Int), ((((Sq52.turned l)[i]?).getD 0 - (i + 1) : Nat) : Int)]
theorem dg_step (l : List Nat) (i : Nat) : dg l (i + 1) = dg l i ++ [(((l[i]?).getD 0 - (i + 1) : Nat) : Int), ((((Sq52.turned l)[i]?).getD 0 - (i + 1) : Nat) : Int)] := by
  unfold dg
  rw [List.range_succ, List.flatMap_append]
  simp only [List.flatMap_cons, List.flatMap_nil, List.append_nil]
theorem dg_len (l : List Nat) (i : Nat) : (dg l i).length = 2 * i := by
  induction i with
  | zero => rfl
  | succ i ih => rw [dg_step, List.length_append, ih]; rfl
theorem dg_eq (l : List Nat) : Sq52.ints ((Sq52.diagonal l).flatMap fun x => [x.1, x.2]) = dg l (Sq52.square l) := by
  unfold dg Sq52.diagonal Sq52.ints
  rw [List.flatMap_map, List.map_flatMap]
  rfl
/-! ### to odd parts -/
theorem oddPart_half {a f : Nat} (h0 : 0 < a) (h : a % 2 = 0) (hf : a ≤ f) : Sq52.oddPart f a = Sq52.oddPart (a / 2) (a / 2) := by
  cases f with
  | zero => omega
  | succ f =>
    show (if a = 0 ∨ a % 2 = 1 then a else Sq52.oddPart f (a / 2)) = _
    rw [if_neg (by omega)]
    exact oddPart_fuel f (a / 2) (a / 2) (by omega) (by omega) (by omega)
theorem oddPart_odd {a : Nat} (h : a % 2 = 1) : Sq52.oddPart a a = a := by
  cases a with
  | zero => rfl
  | succ a =>
    show (if a + 1 = 0 ∨ (a + 1) % 2 = 1 then a + 1 else _) = _
    rw [if_pos (.inr h)]
theorem oddPart_pos {a : Nat} (h : 0 < a) : 0 < Sq52.oddPart a a := by
  have := (oddPart_ok a a h (Nat.le_refl _)).1
  omega
theorem oddPart_le {a : Nat} (h : 0 < a) : Sq52.oddPart a a ≤ a := by
  obtain ⟨_, k, e⟩ := oddPart_ok a a h (Nat.le_refl _)
  have : 0 < 2 ^ k := Nat.pow_pos (by decide)
  exact Nat.le_trans (Nat.le_mul_of_pos_right _ this) (Nat.le_of_eq e.symm)
/-- the odd ones of a part -/
def odds (a : Nat) : List Nat := List.replicate (a / Sq52.oddPart a a) (Sq52.oddPart a a)
theorem toOdd_eq (l : List Nat) : Sq52.toOdd l = Sq52.sorted (l.flatMap odds) := rfl
theorem odds_len {a : Nat} : (odds a).length ≤ a := by
  unfold odds
  rw [List.length_replicate]
  exact Nat.div_le_self ..
theorem oddsAll_len : ∀ l : List Nat, (l.flatMap odds).length ≤ l.sum
  | [] => Nat.le_refl _
  | a :: l => by
    have := oddsAll_len l
    have := odds_len (a := a)
    rw [List.flatMap_cons, List.length_append, List.sum_cons]
    omega
/-! ### to different parts -/
theorem powers_zero (f k : Nat) : Sq52.powers f k 0 = [] := by
  cases f with
  | zero => rfl
  | succ f => rfl
theorem powers_step (f k n : Nat) (h : 0 < n) : Sq52.powers (f + 1) k n = (if n % 2 = 1 then [2 ^ k] else []) ++ Sq52.powers f (k + 1) (n / 2) := by
  show (if n = 0 then [] else _) = _
  rw [if_neg (by omega)]
theorem powers_len : ∀ f k n, (Sq52.powers f k n).length ≤ f
  | 0, _, _ => Nat.le_refl _
  | f + 1, k, n => by
    by_cases c : n = 0
    · rw [c, powers_zero]
      exact Nat.zero_le _
    · rw [powers_step f k n (by omega), List.length_append]
      have := powers_len f (k + 1) (n / 2)
      split
      · simp only [List.length_cons, List.length_nil]
        omega
      · simp only [List.length_nil]
        omega
/-- the parts as they come first -/
def fst1 (l : List Nat) : List Nat := l.foldl (fun (m : List Nat) a => if m.contains a then m else m ++ [a]) []
theorem fst1_snoc (l : List Nat) (a : Nat) : fst1 (l ++ [a]) = if (fst1 l).contains a then fst1 l else fst1 l ++ [a] := by
  unfold fst1
  rw [List.foldl_append]
  rfl
def times (l : List Nat) (a : Nat) : Nat := (l.filter fun b => b == a).length
theorem times_snoc (l : List Nat) (b a : Nat) : times (l ++ [b]) a = times l a + (if b = a then 1 else 0) := by
  unfold times
  rw [List.filter_append, List.length_append]
  congr 1
  by_cases c : b = a
  · rw [if_pos c, List.filter_cons_of_pos (by simpa using c)]
    rfl
  · rw [if_neg c, List.filter_cons_of_neg (by simpa using c)]
    rfl
theorem times_le (l : List Nat) (a : Nat) : times l a ≤ l.length := List.length_filter_le ..
theorem fst1_len (l : List Nat) : (fst1 l).length ≤ l.length := by
  have : ∀ n, ∀ m : List Nat, m.length = n → (fst1 m).length ≤ n := by
    intro n
    induction n with
    | zero =>
      intro m hm
      rw [List.length_eq_zero_iff.mp hm]
      exact Nat.le_refl _
    | succ n ih =>
      intro m hm
      have hne : m ≠ [] := fun e => by rw [e] at hm; cases hm
      have e := List.dropLast_concat_getLast hne
      have h1 := ih m.dropLast (by rw [List.length_dropLast]; omega)
      rw [← e, fst1_snoc]
      split
      · omega
      · rw [List.length_append]
        simp only [List.length_cons, List.length_nil]
        omega
  exact this _ l rfl
/-- what is made of one odd number -/
def pws (l : List Nat) (a : Nat) : List Nat := (Sq52.powers 10 0 (times l a)).map fun k => k * a
theorem toOnce_eq (l : List Nat) : Sq52.toOnce l = Sq52.sorted ((fst1 l).flatMap (pws l)) := rfl
theorem pws_len (l : List Nat) (a : Nat) : (pws l a).length ≤ 10 := by
  unfold pws
  rw [List.length_map]
  exact powers_len ..
theorem flat_le {f : Nat → List Nat} (m : Nat) (h : ∀ a, (f a).length ≤ m) : ∀ l : List Nat, (l.flatMap f).length ≤ m * l.length
  | [] => Nat.le_refl _
  | a :: l => by
    have := flat_le m h l
    have := h a
    rw [List.flatMap_cons, List.length_append, List.length_cons, Nat.mul_succ]
    omega
theorem flat_take {f : Nat → List Nat} {l : List Nat} {i a : Nat} (h : l[i]? = some a) : (l.take (i + 1)).flatMap f = (l.take i).flatMap f ++ f a := by
  rw [List.take_add_one, h, List.flatMap_append]
  show _ ++ List.flatMap f [a] = _
  rw [List.flatMap_cons, List.flatMap_nil, List.append_nil]
/-! ### a partition, by neighbours -/
def isP (l : List Nat) : Bool := Sq52.isPartition l && decide (l.sum ≤ 60)
theorem isP_iff (l : List Nat) : isP l = true ↔ ((∀ a ∈ l, 0 < a) ∧ Desc l) ∧ l.sum ≤ 60 := by
  unfold isP
  rw [Bool.and_eq_true, decide_eq_true_eq, part_iff]
theorem isP_no (l : List Nat) : isP l = false ↔ (Sq52.isPartition l = false ∨ Sq52.SIZE < l.sum) := by
  unfold isP
  show _ ↔ (_ ∨ 60 < l.sum)
  rw [Bool.and_eq_false_iff, decide_eq_false_iff_not, Nat.not_le]
theorem near_desc : ∀ l : List Nat, (∀ i a b, l[i]? = some a → l[i + 1]? = some b → b ≤ a) → Desc l
  | [], _ => .nil
  | [a], _ => List.pairwise_singleton ..
  | a :: b :: l, h => by
    have ih := near_desc (b :: l) fun i x y hx hy => h (i + 1) x y hx hy
    refine List.pairwise_cons.mpr ⟨fun x hx => ?_, ih⟩
    have h0 := h 0 a b rfl rfl
    rcases List.mem_cons.mp hx with e | m
    · omega
    · have := (List.pairwise_cons.mp ih).1 x m
      omega
theorem near_diff : ∀ l : List Nat, (∀ i a b, l[i]? = some a → l[i + 1]? = some b → b < a) → Sq52.different l = true
  | [], _ => rfl
  | [a], _ => rfl
  | a :: b :: l, h => by
    show (decide (b < a) && Sq52.different (b :: l)) = true
    rw [decide_eq_true (h 0 a b rfl rfl), Bool.true_and]
    exact near_diff (b :: l) fun i x y hx hy => h (i + 1) x y hx hy
theorem diff_near {l : List Nat} (h : Sq52.different l = true) {i a b : Nat} (ha : l[i]? = some a) (hb : l[i + 1]? = some b) : b < a := by
  obtain ⟨h1, e1⟩ := List.getElem?_eq_some_iff.mp ha
  obtain ⟨h2, e2⟩ := List.getElem?_eq_some_iff.mp hb
  have := List.pairwise_iff_getElem.mp ((diff_iff l).mp h) i (i + 1) h1 h2 (by omega)
  omega
end Ps

set_option Elab.async false
set_option linter.all false
/-! The flat list of calls, read from the left. No Python here. -/
namespace Ps
abbrev zs (l : List Nat) : List Int := l.map Int.ofNat
def Form : Sq52.Call → List Nat → Prop
  | .begin_ b, w => w = 1 :: b.length :: b
  | .count o n lo hi, w => w = [2, o, n, lo, hi]
  | .make o n lo hi k, w => w = [3, o, n, lo, hi, k]
  | .number o lo hi l, w => w = 4 :: o :: lo :: hi :: l.length :: l
  | .list o n lo hi, w => w = [5, o, n, lo, hi]
  | .next o lo hi l, w => w = 6 :: o :: lo :: hi :: l.length :: l
  | .turn l, w => w = 7 :: l.length :: l
  | .odd l, w => w = 8 :: l.length :: l
  | .once l, w => w = 9 :: l.length :: l
  | .diagonal l, w => w = 10 :: l.length :: l
/-- how long its list is -/
def rowLen : Sq52.Call → Nat
  | .begin_ b => b.length
  | .number _ _ _ l => l.length
  | .next _ _ _ l => l.length
  | .turn l => l.length
  | .odd l => l.length
  | .once l => l.length
  | .diagonal l => l.length
  | _ => 0
theorem whole_eq (c : List (List Int)) : PySq52.whole c = c := by
  unfold PySq52.whole
  split <;> rfl
theorem row_inv {l : List Nat} {x : List Int} {s : List Int} (h : PyFlat.row (zs l) = some (x, s)) : ∃ (r t : List Nat), l = r.length :: (r ++ t) ∧ x = zs r ∧ s = zs t := by
  cases l with
  | nil => cases h
  | cons n l =>
    change (if 0 ≤ Int.ofNat n ∧ (Int.ofNat n).toNat ≤ (zs l).length then some ((zs l).take (Int.ofNat n).toNat, (zs l).drop (Int.ofNat n).toNat) else none) = some (x, s) at h
    rw [show (Int.ofNat n).toNat = n from rfl, List.length_map] at h
    by_cases c : 0 ≤ Int.ofNat n ∧ n ≤ l.length
    · rw [if_pos c] at h
      have h := Option.some.inj h
      have h1 := (Prod.mk.inj h).1
      have h2 := (Prod.mk.inj h).2
      refine ⟨l.take n, l.drop n, ?_, h1.symm.trans List.map_take.symm, h2.symm.trans List.map_drop.symm⟩
      rw [List.take_append_drop, List.length_take, Nat.min_eq_left c.2]
    · rw [if_neg c] at h
      cases h
theorem rows_one {l : List Nat} {xs : List (List Int)} {t : List Int} (h : PyFlat.rows 1 (zs l) = some (xs, t)) : ∃ (r u : List Nat), l = r.length :: (r ++ u) ∧ xs = [zs r] ∧ t = zs u := by
  change (match PyFlat.row (zs l) with | none => none | some (x, s) => match PyFlat.rows 0 s with | none => none | some (xs, t) => some (x :: xs, t)) = some (xs, t) at h
  cases e : PyFlat.row (zs l) with
  | none => rw [e] at h; cases h
  | some q =>
    obtain ⟨x, s⟩ := q
    rw [e] at h
    have h := Option.some.inj h
    have h1 := (Prod.mk.inj h).1
    have h2 := (Prod.mk.inj h).2
    obtain ⟨r, u, e1, e2, e3⟩ := row_inv e
    exact ⟨r, u, e1, by rw [← h1, e2], by rw [← h2, e3]⟩
theorem call_inv {p : Nat} {l : List Nat} {c : List (List Int)} {t : List Int} (h : PyFlat.call PySq52.shape (zs (p :: l)) = some (c, t)) :
    ∃ n k, PySq52.shape (p : Int) = some (n, k) ∧ n ≤ l.length ∧ ∃ xs, PyFlat.rows k (zs (l.drop n)) = some (xs, t) ∧ c = ((p : Int) :: zs (l.take n)) :: xs := by
  change (match PySq52.shape (p : Int) with | none => none | some (n, k) => if (zs l).length < n then none else match PyFlat.rows k ((zs l).drop n) with | none => none | some (xs, t) => some (((p : Int) :: (zs l).take n) :: xs, t)) = some (c, t) at h
  cases e : PySq52.shape (p : Int) with
  | none => rw [e] at h; cases h
  | some q =>
    obtain ⟨n, k⟩ := q
    rw [e] at h
    dsimp only at h
    by_cases cl : (zs l).length < n
    · rw [if_pos cl] at h
      cases h
    · rw [if_neg cl] at h
      rw [List.length_map] at cl
      cases e2 : PyFlat.rows k ((zs l).drop n) with
      | none => rw [e2] at h; cases h
      | some q2 =>
        obtain ⟨xs, t2⟩ := q2
        rw [e2] at h
        have h := Option.some.inj h
        have h1 := (Prod.mk.inj h).1
        have h2 := (Prod.mk.inj h).2
        subst h2
        refine ⟨n, k, rfl, by omega, xs, ?_, ?_⟩
        · rw [← List.map_drop] at e2
          exact e2
        · rw [← h1, ← List.map_take]
theorem shape_cases {p n k : Nat} (h : PySq52.shape (p : Int) = some (n, k)) : (p = 1 ∧ n = 0 ∧ k = 1) ∨ (p = 2 ∧ n = 4 ∧ k = 0) ∨ (p = 3 ∧ n = 5 ∧ k = 0) ∨ (p = 4 ∧ n = 3 ∧ k = 1) ∨ (p = 5 ∧ n = 4 ∧ k = 0) ∨ (p = 6 ∧ n = 3 ∧ k = 1) ∨
    (p = 7 ∧ n = 0 ∧ k = 1) ∨ (p = 8 ∧ n = 0 ∧ k = 1) ∨ (p = 9 ∧ n = 0 ∧ k = 1) ∨ (p = 10 ∧ n = 0 ∧ k = 1) := by
  unfold PySq52.shape at h
  repeat' split at h
  all_goals first
    | (cases h; omega)
    | cases h
theorem len3 {l : List Nat} (h : 3 ≤ l.length) : ∃ a b c t, l = a :: b :: c :: t := by
  match l, h with
  | a :: b :: c :: t, _ => exact ⟨a, b, c, t, rfl⟩
theorem len4 {l : List Nat} (h : 4 ≤ l.length) : ∃ a b c d t, l = a :: b :: c :: d :: t := by
  match l, h with
  | a :: b :: c :: d :: t, _ => exact ⟨a, b, c, d, t, rfl⟩
theorem len5 {l : List Nat} (h : 5 ≤ l.length) : ∃ a b c d e t, l = a :: b :: c :: d :: e :: t := by
  match l, h with
  | a :: b :: c :: d :: e :: t, _ => exact ⟨a, b, c, d, e, t, rfl⟩
theorem zs_back (l : List Nat) : (zs l).map (fun z => z.toNat) = l := by
  rw [List.map_map]
  exact List.map_id'' (fun _ => rfl) l
theorem lists_le {lo hi : Int} {r : List Int} (h : PyInside.lists [(lo, hi, 0, 1024)] [r] = true) : r.length ≤ 1024 := by
  unfold PyInside.lists at h
  simp only [Bool.and_eq_true, decide_eq_true_eq] at h
  exact h.1.1.2
/-- one call at the list's head -/
theorem call_form {l : List Nat} {c : List (List Int)} {t : List Int} (h : PyFlat.call PySq52.shape (zs l) = some (c, t)) (hin : PyInside.call PySq52.bound c = true) :
    ∃ (C : Sq52.Call) (w u : List Nat), l = w ++ u ∧ t = zs u ∧ Form C w ∧ rowLen C ≤ 1024 ∧ Sq52Neutral.callOf c = some C := by
  cases l with
  | nil => cases h
  | cons p l =>
    obtain ⟨n, k, hs, hn, xs, hr, rfl⟩ := call_inv h
    rcases shape_cases hs with ⟨rfl, rfl, rfl⟩ | ⟨rfl, rfl, rfl⟩ | ⟨rfl, rfl, rfl⟩ | ⟨rfl, rfl, rfl⟩ | ⟨rfl, rfl, rfl⟩ | ⟨rfl, rfl, rfl⟩ | ⟨rfl, rfl, rfl⟩ | ⟨rfl, rfl, rfl⟩ | ⟨rfl, rfl, rfl⟩ | ⟨rfl, rfl, rfl⟩
    · obtain ⟨r, u, e1, rfl, rfl⟩ := rows_one hr
      rw [List.drop_zero] at e1
      subst e1
      refine ⟨.begin_ r, 1 :: r.length :: r, u, rfl, rfl, rfl, ?_, ?_⟩
      · have := lists_le (r := zs r) hin
        rwa [List.length_map] at this
      · show some (Sq52.Call.begin_ ((zs r).map fun z => z.toNat)) = _
        rw [zs_back]
    · obtain ⟨a, b, c, d, u, rfl⟩ := len4 hn
      have hr := Option.some.inj hr
      have h1 := (Prod.mk.inj hr).1
      have h2 := (Prod.mk.inj hr).2
      subst h1
      exact ⟨.count a b c d, [2, a, b, c, d], u, rfl, h2.symm, rfl, by show 0 ≤ 1024; omega, rfl⟩
    · obtain ⟨a, b, c, d, e, u, rfl⟩ := len5 hn
      have hr := Option.some.inj hr
      have h1 := (Prod.mk.inj hr).1
      have h2 := (Prod.mk.inj hr).2
      subst h1
      exact ⟨.make a b c d e, [3, a, b, c, d, e], u, rfl, h2.symm, rfl, by show 0 ≤ 1024; omega, rfl⟩
    · obtain ⟨a, b, c, t0, rfl⟩ := len3 hn
      obtain ⟨r, u, e1, rfl, rfl⟩ := rows_one hr
      change t0 = _ at e1
      subst e1
      refine ⟨.number a b c r, 4 :: a :: b :: c :: r.length :: r, u, rfl, rfl, rfl, ?_, ?_⟩
      · have hin2 : (PyInside.each [(0, 18446744073709551615), (0, 18446744073709551615), (0, 18446744073709551615)] (zs [a, b, c]) && PyInside.lists [(0, 18446744073709551615, 0, 1024)] [zs r]) = true := hin
        rw [Bool.and_eq_true] at hin2
        have := lists_le hin2.2
        rwa [List.length_map] at this
      · show some (Sq52.Call.number a b c ((zs r).map fun z => z.toNat)) = _
        rw [zs_back]
    · obtain ⟨a, b, c, d, u, rfl⟩ := len4 hn
      have hr := Option.some.inj hr
      have h1 := (Prod.mk.inj hr).1
      have h2 := (Prod.mk.inj hr).2
      subst h1
      exact ⟨.list a b c d, [5, a, b, c, d], u, rfl, h2.symm, rfl, by show 0 ≤ 1024; omega, rfl⟩
    · obtain ⟨a, b, c, t0, rfl⟩ := len3 hn
      obtain ⟨r, u, e1, rfl, rfl⟩ := rows_one hr
      change t0 = _ at e1
      subst e1
      refine ⟨.next a b c r, 6 :: a :: b :: c :: r.length :: r, u, rfl, rfl, rfl, ?_, ?_⟩
      · have hin2 : (PyInside.each [(0, 18446744073709551615), (0, 18446744073709551615), (0, 18446744073709551615)] (zs [a, b, c]) && PyInside.lists [(0, 18446744073709551615, 0, 1024)] [zs r]) = true := hin
        rw [Bool.and_eq_true] at hin2
        have := lists_le hin2.2
        rwa [List.length_map] at this
      · show some (Sq52.Call.next a b c ((zs r).map fun z => z.toNat)) = _
        rw [zs_back]
    · obtain ⟨r, u, e1, rfl, rfl⟩ := rows_one hr
      rw [List.drop_zero] at e1
      subst e1
      refine ⟨.turn r, 7 :: r.length :: r, u, rfl, rfl, rfl, ?_, ?_⟩
      · have := lists_le (r := zs r) hin
        rwa [List.length_map] at this
      · show some (Sq52.Call.turn ((zs r).map fun z => z.toNat)) = _
        rw [zs_back]
    · obtain ⟨r, u, e1, rfl, rfl⟩ := rows_one hr
      rw [List.drop_zero] at e1
      subst e1
      refine ⟨.odd r, 8 :: r.length :: r, u, rfl, rfl, rfl, ?_, ?_⟩
      · have := lists_le (r := zs r) hin
        rwa [List.length_map] at this
      · show some (Sq52.Call.odd ((zs r).map fun z => z.toNat)) = _
        rw [zs_back]
    · obtain ⟨r, u, e1, rfl, rfl⟩ := rows_one hr
      rw [List.drop_zero] at e1
      subst e1
      refine ⟨.once r, 9 :: r.length :: r, u, rfl, rfl, rfl, ?_, ?_⟩
      · have := lists_le (r := zs r) hin
        rwa [List.length_map] at this
      · show some (Sq52.Call.once ((zs r).map fun z => z.toNat)) = _
        rw [zs_back]
    · obtain ⟨r, u, e1, rfl, rfl⟩ := rows_one hr
      rw [List.drop_zero] at e1
      subst e1
      refine ⟨.diagonal r, 10 :: r.length :: r, u, rfl, rfl, rfl, ?_, ?_⟩
      · have := lists_le (r := zs r) hin
        rwa [List.length_map] at this
      · show some (Sq52.Call.diagonal ((zs r).map fun z => z.toNat)) = _
        rw [zs_back]
/-- calls one behind another, flat -/
inductive Line : List Nat → List Sq52.Call → Prop
  | nil : Line [] []
  | cons {C : Sq52.Call} {w u : List Nat} {cs : List Sq52.Call} : Form C w → rowLen C ≤ 1024 → Line u cs → Line (w ++ u) (C :: cs)
def playC : List Nat → List Sq52.Call → List Int
  | _, [] => []
  | h, C :: r => (((Sq52.House.step h C).2.value :: (Sq52.House.step h C).2.out).length : Int) :: ((Sq52.House.step h C).2.value :: (Sq52.House.step h C).2.out) ++ playC (Sq52.House.step h C).1 r
theorem calls_line : ∀ (f : Nat) (l : List Nat) (raw : List (List (List Int))), PyFlat.calls PySq52.shape f (zs l) = some raw → PyInside.calls PySq52.bound raw = true →
    ∃ cs, Line l cs ∧ ∀ h, PyFlat.told (PyFlat.played Sq52Neutral.step h raw) = playC h cs
  | f, [], raw, h, _ => by
    have h' : some [] = some raw := by cases f <;> exact h
    have h' := Option.some.inj h'
    subst h'
    exact ⟨[], .nil, fun _ => rfl⟩
  | 0, _ :: _, raw, h, _ => by cases h
  | f + 1, p :: l, raw, h, hin => by
    change (match PyFlat.call PySq52.shape (zs (p :: l)) with | none => none | some (c, t) => match PyFlat.calls PySq52.shape f t with | none => none | some cs => some (c :: cs)) = some raw at h
    cases e : PyFlat.call PySq52.shape (zs (p :: l)) with
    | none => rw [e] at h; cases h
    | some q =>
      obtain ⟨c, t⟩ := q
      rw [e] at h
      dsimp only at h
      cases e2 : PyFlat.calls PySq52.shape f t with
      | none => rw [e2] at h; cases h
      | some rs =>
        rw [e2] at h
        have h := Option.some.inj h
        subst h
        unfold PyInside.calls at hin
        rw [List.all_cons, Bool.and_eq_true] at hin
        obtain ⟨C, w, u, e3, rfl, hF, hl, hC⟩ := call_form e hin.1
        obtain ⟨cs, hL, hP⟩ := calls_line f u rs e2 hin.2
        refine ⟨C :: cs, ?_, fun h => ?_⟩
        · rw [e3]
          exact .cons hF hl hL
        · have es : Sq52Neutral.step h c = ((Sq52.House.step h C).1, (Sq52.House.step h C).2.value :: (Sq52.House.step h C).2.out) := by
            unfold Sq52Neutral.step
            rw [hC]
          show PyFlat.told ((Sq52Neutral.step h c).2 :: PyFlat.played Sq52Neutral.step (Sq52Neutral.step h c).1 rs) = _
          rw [es]
          unfold PyFlat.told
          rw [List.flatMap_cons]
          have := hP (Sq52.House.step h C).1
          unfold PyFlat.told at this
          rw [this]
          rfl
theorem zs_of : ∀ (l : List Int), (∀ z ∈ l, 0 ≤ z) → l = zs (l.map Int.toNat)
  | [], _ => rfl
  | z :: r, h => by
    have h1 := h z (List.mem_cons_self ..)
    have h2 := zs_of r fun y hy => h y (List.mem_cons_of_mem _ hy)
    show z :: r = ((z.toNat : Nat) : Int) :: zs (r.map Int.toNat)
    rw [← h2, Int.toNat_of_nonneg h1]
/-- what the request says -/
theorem asked_line {l : List Int} (hz : ∀ z ∈ l, 0 ≤ z) (h : PySq52.answers_asked l = true) : ∃ (ls : List Nat) (cs : List Sq52.Call), l = zs ls ∧ Line ls cs ∧ PySq52.answers l = playC Sq52.fresh cs ∧ (PySq52.answers l).length ≤ 10000000 := by
  have el := zs_of l hz
  refine ⟨l.map Int.toNat, ?_⟩
  unfold PySq52.answers_asked at h
  cases e : PyFlat.calls PySq52.shape l.length l with
  | none => rw [e] at h; cases h
  | some raw =>
    rw [e] at h
    simp only [Bool.and_eq_true] at h
    obtain ⟨⟨⟨⟨_, _⟩, hin⟩, _⟩, hsh⟩ := h
    have e' := e
    rw [el] at e'
    obtain ⟨cs, hL, hP⟩ := calls_line _ _ raw e' hin
    refine ⟨cs, el, hL, ?_, ?_⟩
    · rw [← hP]
      unfold PySq52.answers PySq52.calls
      rw [e]
      have : raw.map PySq52.whole = raw := List.map_id'' whole_eq raw
      dsimp only
      rw [this]
      rfl
    · exact of_decide_eq_true hsh
/-- the state stays good, and changes by begin alone -/
theorem asked_state (h : List Nat) (o n lo hi : Nat) (f) : (Sq52.House.asked h o n lo hi f).1 = h := by
  unfold Sq52.House.asked
  split
  · rfl
  · dsimp only
    split <;> rfl
theorem found_state (h : List Nat) (o lo hi : Nat) (l : List Nat) (f) : (Sq52.House.found h o lo hi l f).1 = h := by
  unfold Sq52.House.found
  split
  · rfl
  · split
    · rfl
    · split
      · rfl
      · exact asked_state ..
theorem part_state (h : List Nat) (l : List Nat) (ok : List Nat → Bool) (f : List Nat → List Nat) : (Sq52.House.part h l ok f).1 = h := by
  unfold Sq52.House.part
  split
  · rfl
  · split <;> rfl
theorem step_state (h : List Nat) (C : Sq52.Call) : (∃ b, C = .begin_ b) ∨ (Sq52.House.step h C).1 = h := by
  cases C with
  | begin_ b => exact .inl ⟨b, rfl⟩
  | count o n lo hi => exact .inr (asked_state ..)
  | make o n lo hi k => exact .inr (asked_state ..)
  | number o lo hi l => exact .inr (found_state ..)
  | list o n lo hi => exact .inr (asked_state ..)
  | next o lo hi l => exact .inr (found_state ..)
  | turn l => exact .inr (part_state ..)
  | odd l => exact .inr (part_state ..)
  | once l => exact .inr (part_state ..)
  | diagonal l =>
    refine .inr ?_
    show (if Sq52.isPartition l = false ∨ Sq52.SIZE < l.sum then (h, Sq52.says (-3)) else _).1 = h
    split <;> rfl
end Ps

set_option Elab.async false
set_option linter.all false
set_option maxRecDepth 100000
set_option maxHeartbeats 4000000
namespace Ps
open PySem PySem.Spec PyProof.Rows L2
def topS (i : Nat) : Stmt := PySem.Challenge.pw_partsandsets_s01_answers.main.body.getD i (.Pass ⟨0, 0, 0, 0⟩)
/-! ### data in the heap -/
inductive All2 {α : Type} (R : V → α → Prop) : List V → List α → Prop
  | nil : All2 R [] []
  | cons {v : V} {x : α} {vs : List V} {xs : List α} : R v x → All2 R vs xs → All2 R (v :: vs) (x :: xs)
theorem All2.len {α : Type} {R : V → α → Prop} : ∀ {vs : List V} {xs : List α}, All2 R vs xs → vs.length = xs.length
  | _, _, .nil => rfl
  | _, _, .cons _ t => congrArg (· + 1) t.len
theorem All2.mono {α : Type} {R R' : V → α → Prop} (h : ∀ v x, R v x → R' v x) : ∀ {vs : List V} {xs : List α}, All2 R vs xs → All2 R' vs xs
  | _, _, .nil => .nil
  | _, _, .cons r t => .cons (h _ _ r) (t.mono h)
theorem All2.get {α : Type} {R : V → α → Prop} : ∀ {vs : List V} {xs : List α} {i : Nat} {x : α}, All2 R vs xs → xs[i]? = some x → ∃ v, vs[i]? = some v ∧ R v x
  | _, _, _, _, .nil, e => by simp at e
  | _, _, 0, _, .cons r _, e => by
    have e := Option.some.inj e
    subst e
    exact ⟨_, rfl, r⟩
  | _, _, i + 1, x, .cons _ t, e => All2.get (i := i) (x := x) t e
theorem All2.get' {α : Type} {R : V → α → Prop} : ∀ {vs : List V} {xs : List α} {i : Nat} {v : V}, All2 R vs xs → vs[i]? = some v → ∃ x, xs[i]? = some x ∧ R v x
  | _, _, _, _, .nil, e => by simp at e
  | _, _, 0, _, .cons r _, e => by
    have e := Option.some.inj e
    subst e
    exact ⟨_, rfl, r⟩
  | _, _, i + 1, x, .cons _ t, e => All2.get' (i := i) (v := x) t e
theorem All2.append {α : Type} {R : V → α → Prop} : ∀ {vs ws : List V} {xs ys : List α}, All2 R vs xs → All2 R ws ys → All2 R (vs ++ ws) (xs ++ ys)
  | _, _, _, _, .nil, s => s
  | _, _, _, _, .cons r t, s => .cons r (t.append s)
theorem All2.snoc {α : Type} {R : V → α → Prop} {vs : List V} {xs : List α} {v : V} {x : α} (h : All2 R vs xs) (r : R v x) : All2 R (vs ++ [v]) (xs ++ [x]) := h.append (.cons r .nil)
theorem All2.reverse {α : Type} {R : V → α → Prop} : ∀ {vs : List V} {xs : List α}, All2 R vs xs → All2 R vs.reverse xs.reverse
  | _, _, .nil => .nil
  | _, _, .cons r t => by
    rw [List.reverse_cons, List.reverse_cons]
    exact t.reverse.snoc r
def vn (n : Nat) : V := .int (n : Int)
def vns (ns : List Nat) : List V := ns.map vn
theorem vns_len (ns : List Nat) : (vns ns).length = ns.length := List.length_map ..
theorem vns_get {ns : List Nat} {i n : Nat} (h : ns[i]? = some n) : (vns ns)[i]? = some (.int (n : Int)) := by
  unfold vns
  rw [List.getElem?_map, h]
  rfl
theorem vns_of {ns : List Nat} {i : Nat} {v : V} (h : (vns ns)[i]? = some v) : ∃ n, ns[i]? = some n ∧ v = .int (n : Int) := by
  unfold vns at h
  rw [List.getElem?_map] at h
  cases e : ns[i]? with
  | none => rw [e] at h; cases h
  | some n => rw [e] at h; exact ⟨n, rfl, (Option.some.inj h).symm⟩
/-- a pair of whole numbers -/
def PairT (H : Hp) (v : V) (x : Sq52.Item) : Prop := ∃ a, v = .ref a ∧ H a = some (.tup [vn x.1, vn x.2])
def NatsT (H : Hp) (v : V) (ns : List Nat) : Prop := ∃ a, v = .ref a ∧ H a = some (.lst (vns ns))
def LOf {α : Type} (R : Hp → V → α → Prop) (H : Hp) (v : V) (xs : List α) : Prop := ∃ a vs, v = .ref a ∧ H a = some (.lst vs) ∧ All2 (R H) vs xs
abbrev RowT : Hp → V → List Sq52.Item → Prop := LOf PairT
abbrev GridT : Hp → V → List (List Nat) → Prop := LOf NatsT
abbrev TabT : Hp → V → List (List (List Nat)) → Prop := LOf GridT
theorem PairT.same {H H' : Hp} {v : V} {x : Sq52.Item} (s : Same H H') (h : PairT H v x) : PairT H' v x := by
  obtain ⟨a, rfl, h⟩ := h
  exact ⟨a, rfl, s _ _ h⟩
theorem NatsT.same {H H' : Hp} {v : V} {x : List Nat} (s : Same H H') (h : NatsT H v x) : NatsT H' v x := by
  obtain ⟨a, rfl, h⟩ := h
  exact ⟨a, rfl, s _ _ h⟩
theorem LOf.sameOf {α : Type} {R : Hp → V → α → Prop} {H H' : Hp} (hR : ∀ v x, R H v x → R H' v x) {v : V} {xs : List α} (s : Same H H') (h : LOf R H v xs) : LOf R H' v xs := by
  obtain ⟨a, vs, rfl, h, q⟩ := h
  exact ⟨a, vs, rfl, s _ _ h, q.mono hR⟩
theorem RowT.same {H H' : Hp} {v : V} {xs : List Sq52.Item} (s : Same H H') (h : RowT H v xs) : RowT H' v xs := LOf.sameOf (fun _ _ q => PairT.same s q) s h
theorem GridT.same {H H' : Hp} {v : V} {xs : List (List Nat)} (s : Same H H') (h : GridT H v xs) : GridT H' v xs := LOf.sameOf (fun _ _ q => NatsT.same s q) s h
theorem TabT.same {H H' : Hp} {v : V} {xs : List (List (List Nat))} (s : Same H H') (h : TabT H v xs) : TabT H' v xs := LOf.sameOf (fun _ _ q => GridT.same s q) s h
theorem same_upd {H : Hp} {p : Addr} {o : HO} (h : H p = none) : Same H (upd H p o) := fun b x e => by
  rw [upd_ne (ne_of_none e h)]
  exact e
/-- what stood in H0, though p (new since) is written again -/
theorem same_put {H0 H : Hp} {p : Addr} {o : HO} (s : Same H0 H) (h : H0 p = none) : Same H0 (upd H p o) := fun b x e => by
  rw [upd_ne (ne_of_none e h)]
  exact s _ _ e
theorem itT {c : Bool} {A B : Prop} (hc : c = true) (h : A) : if c = true then A else B := by
  rw [if_pos hc]
  exact h
theorem itF {c : Bool} {A B : Prop} (hc : c = false) (h : B) : if c = true then A else B := by
  rw [hc, if_neg Bool.false_ne_true]
  exact h
theorem line {n : Nat} (h : n ≤ 16777216) : n ≤ sizeLine := by
  rw [sizeLine_eq]
  exact h
theorem line' {n : Nat} (h : n < 16777216) : n < sizeLine := by
  rw [sizeLine_eq]
  exact h
theorem ixl {X : Cx} {K : PySem.W.Frag} (h : X.K = K := by rfl) : IxR X (rIxL K) := by
  subst h
  exact ix_list
theorem ixt {X : Cx} {K : PySem.W.Frag} (h : X.K = K := by rfl) : IxR X (rIxT K) := by
  subst h
  exact ix_tup
theorem yesT {σ : L2.St} {H : Hp} {A : Hp → Prop} {B : Hp → Prop} (h : A H) : tYes σ H (fun b H3 => if b = true then A H3 else B H3) := by
  show if true = true then A H else B H
  rw [if_pos rfl]
  exact h
/-- the heap but for one address: a list that is being made -/
def off (H : Hp) (D : Addr) : Hp := fun b => if b = D then none else H b
theorem off_same (H : Hp) (D : Addr) : Same (off H D) H := fun b o e => by
  unfold off at e
  by_cases c : b = D
  · rw [if_pos c] at e
    cases e
  · rw [if_neg c] at e
    exact e
theorem off_upd (H : Hp) (D : Addr) (o : HO) : off (upd H D o) D = off H D := by
  funext b
  unfold off
  by_cases c : b = D
  · rw [if_pos c, if_pos c]
  · rw [if_neg c, if_neg c, upd_ne c]
theorem off_mono {H H' : Hp} (s : Same H H') (D : Addr) : Same (off H D) (off H' D) := fun b o e => by
  unfold off at e ⊢
  by_cases c : b = D
  · rw [if_pos c] at e
    cases e
  · rw [if_neg c] at e ⊢
    exact s _ _ e
theorem off_ne {H : Hp} {D b : Addr} (h : b ≠ D) : off H D b = H b := if_neg h
theorem off_base {H0 H : Hp} {D : Addr} (s : Same H0 H) (n : H0 D = none) : Same H0 (off H D) := fun b o e => by
  rw [off_ne (ne_of_none e n)]
  exact s _ _ e
theorem off_put {H H' : Hp} {D : Addr} {o : HO} (s : Same H H') : Same (off H D) (off (upd H' D o) D) := by
  rw [off_upd]
  exact off_mono s D
theorem ne2 {H : Hp} {a b : Addr} {o : HO} (h : H a = some o) (h' : H b = none) : b ≠ a := (ne_of_none h h').symm
end Ps

set_option Elab.async false
set_option linter.all false
set_option maxRecDepth 100000
set_option maxHeartbeats 4000000
namespace Ps
open PySem PySem.Spec PyProof.Rows L2
abbrev sRow : Stmt := topS 14
theorem scRow : FnScope ["how_many", "row", "at", "many", "number"] ["how_many"] (defScope sRow) := ⟨rfl, rfl, rfl, by decide +kernel, rfl, by decide +kernel, by decide +kernel⟩
def spRow (K : PySem.W.Frag) : Sp := fun vs H Q _ => ∃ (a : Addr) (b : List Nat), vs = [.ref a] ∧ SqL K H a (vns b) ∧ b.sum ≤ 60 ∧ ∀ H' p vs, Same H H' → H p = none → H' p = some (.lst vs) → All2 (PairT H') vs (Sq52.itemsOf b) → Q (.ref p) H'
theorem take_sum_le : ∀ (b : List Nat) (i : Nat), (b.take i).sum ≤ b.sum
  | [], i => by simp
  | m :: b, 0 => by simp
  | m :: b, i + 1 => by
    have := take_sum_le b i
    rw [List.take_succ_cons, List.sum_cons, List.sum_cons]
    omega
theorem get_sum_le : ∀ (b : List Nat) (i m : Nat), b[i]? = some m → m ≤ b.sum
  | [], i, m, h => by simp at h
  | x :: b, 0, m, h => by
    have := Option.some.inj h
    subst this
    rw [List.sum_cons]
    omega
  | x :: b, i + 1, m, h => by
    have := get_sum_le b i m h
    rw [List.sum_cons]
    omega
section
variable {P : Program} {w : World} {K : PySem.W.Frag} {mg : Str → Option Value} {base : Heap}
theorem ok_row {f : Addr} {fd : FuncData} {k : Nat} (F : Fun K "row_of" "row_of" sRow f fd) (me : mg "enumerate" = none) (mr : mg "range" = none) : FnOk P w K mg base CX0 (k + 1) f fd ["how_many"] (spRow K) := by
  refine F.ok scRow (fun vs H Q E h => ?_) (fun cdv A outer s H vs Q E hr h => ?_)
  · obtain ⟨a, b, rfl, _⟩ := h
    rfl
  · obtain ⟨a, b, rfl, hS, hsum, q⟩ := h
    refine ⟨_, pss_cons (ps_set (i := 1) scRow.nd rfl (.inl rfl) (pe_lst pa_nil))
      (pss_cons (ps_for PassesOwn.never rfl (pi_enum (by rfl) me (pa_cons (pv 0) pa_nil))
          (pg_tup rfl (pgs_cons (pg_name (i := 2) scRow.nd rfl (.inl rfl)) (pgs_cons (pg_name (i := 3) scRow.nd rfl (.inl rfl)) pgs_nil)))
        (pss_one (ps_for PassesOwn.never rfl (pi_range1 rfl mr (pa_cons (pv 3) pa_nil)) (pg_name (i := 4) scRow.nd rfl (.inl rfl))
          (pss_one (ps_expr (pe_bm PySem.F.plainAttrs_list PySem.F.slot_list_append PySem.F.type_list_append mt_append (pv 1) (pa_cons (pe_tup (pa_cons (pe_op op_add (pv 2) pe_int) (pa_cons (pv 4) pa_nil))) pa_nil)))))))
      (pss_one (ps_ret (pv 1)))), ?_⟩
    refine ⟨Nat.zero_le _, fun r nr => ?_⟩
    have s1 : Same H (upd H r (.lst [])) := same_upd nr
    refine ⟨.ref a, rfl, a, vns b, rfl, s1.seq hS, for_it (walk_enum (xs := vns b)) (fun i σ H' => ∃ vs x2 x3 x4, σ = [some (.ref a), some (.ref r), x2, x3, x4] ∧ Same H H' ∧ H' r = some (.lst vs) ∧ All2 (PairT H') vs (Sq52.itemsOf (b.take i)))
      ⟨[], none, none, none, rfl, s1, upd_same, .nil⟩ (fun i σ H' _ ⟨_, _, _, _, _, s2, _⟩ => s2.seq hS) ?_ ?_⟩
    · rintro i x σ H2 H3 hi ⟨vs, x2, x3, x4, rfl, s2, e2, al⟩ ⟨T, v1, v2, rfl, nT, rfl, ev1, ev2⟩
      have e1 := (Option.some.inj ev1).symm
      subst e1
      obtain ⟨m, em, rfl⟩ := vns_of ev2
      have sT : Same H2 (upd H2 T (.tup [.int (i : Nat), .int (m : Nat)])) := same_upd nT
      have hm := get_sum_le b i m em
      refine ⟨T, _, rfl, SqT.of upd_same, rfl, _, _, rfl, _, _, rfl, rfl, ?_⟩
      have hit := items_take em
      have hlen : (Sq52.itemsOf (b.take i)).length ≤ 60 := by
        rw [itemsOf_len]
        exact Nat.le_trans (take_sum_le b i) hsum
      refine ⟨_, rfl, (m : Int), rfl, by omega, by omega, for_it (walk_range (lo := 0) (n := m)) (fun j σ H' => ∃ vs x4, σ = [some (.ref a), some (.ref r), some (.int (i : Nat)), some (.int (m : Nat)), x4] ∧ Same H H' ∧ H' r = some (.lst vs) ∧ All2 (PairT H') vs (Sq52.itemsOf (b.take i) ++ (List.range j).map (fun j => (i + 1, j))))
        ⟨vs, x4, rfl, s2.trans sT, sT _ _ e2, ?_⟩ (fun _ _ _ _ _ => trivial) ?_ ?_⟩
      · rw [show (List.range 0).map (fun j => (i + 1, j)) = [] from rfl, List.append_nil]
        exact al.mono fun _ _ q => q.same sT
      · rintro j x σ H4 H5 hj ⟨ws, y4, rfl, s4, e4, al4⟩ ⟨rfl, rfl⟩
        refine ⟨_, rfl, .inl ⟨rfl, _, SqL.of e4⟩, _, rfl, _, _, rfl, rfl, _, rfl, (by show 2 ≤ sizeLine; decide), fun t nt => ?_⟩
        have st : Same H5 (upd H5 t (.tup [.int ((i : Int) + 1), .int (0 + (j : Int))])) := same_upd nt
        have hl := al4.len
        rw [List.length_append, List.length_map, List.length_range] at hl
        refine ⟨r, _, _, rfl, rfl, st _ _ e4, line' (by omega), ?_⟩
        refine ⟨ws ++ [.ref t], some (.int (0 + (j : Int))), rfl, same_put (s4.trans st) nr, upd_same, ?_⟩
        have ntr : t ≠ r := ne2 e4 nt
        have sN : ∀ v x, PairT H5 v x → PairT (upd (upd H5 t (.tup [.int ((i : Int) + 1), .int (0 + (j : Int))])) r (.lst (ws ++ [.ref t]))) v x := fun v x ⟨p, ep, hp⟩ => ⟨p, ep, by
          rw [upd_ne (ne_of hp e4 (by intro z; cases z))]
          exact st _ _ hp⟩
        rw [List.range_succ, List.map_append, ← List.append_assoc]
        refine (al4.mono sN).snoc ⟨t, rfl, ?_⟩
        rw [upd_ne ntr, upd_same]
        show some (HO.tup [.int ((i : Int) + 1), .int (0 + (j : Int))]) = some (HO.tup [.int ((i + 1 : Nat) : Int), .int (j : Int)])
        rw [Int.zero_add]
        rfl
      · rintro σ H4 ⟨ws, y4, rfl, s4, e4, al4⟩
        exact ⟨ws, _, _, y4, rfl, s4, e4, by rw [hit]; exact al4⟩
    · rintro σ H2 ⟨vs, x2, x3, x4, rfl, s2, e2, al⟩
      rw [vns_len, List.take_length] at al
      exact ⟨_, rfl, q _ r vs s2 nr e2 al⟩
end
end Ps

set_option Elab.async false
set_option linter.all false
set_option maxRecDepth 100000
set_option maxHeartbeats 4000000
namespace Ps
open PySem PySem.Spec PyProof.Rows L2
abbrev sThings : Stmt := topS 15
theorem scThings : FnScope ["numbers", "at"] ["numbers"] (defScope sThings) := ⟨rfl, rfl, rfl, by decide +kernel, rfl, by decide +kernel, by decide +kernel⟩
theorem pairs_len : ∀ {ns : List Nat} {s : List Sq52.Item}, Sq52.pairs ns = some s → ns.length = 2 * s.length
  | [], s, h => by
    have e := Option.some.inj h
    subst e
    rfl
  | [_], s, h => by cases h
  | a :: b :: l, s, h => by
    change (Sq52.pairs l).map (fun m => (a, b) :: m) = some s at h
    cases e : Sq52.pairs l with
    | none => rw [e] at h; cases h
    | some t =>
      rw [e] at h
      have e2 := Option.some.inj h
      subst e2
      have := pairs_len e
      rw [List.length_cons, List.length_cons, List.length_cons, this]
      omega
theorem pairs_get : ∀ {ns : List Nat} {s : List Sq52.Item} {i : Nat} {x : Sq52.Item}, Sq52.pairs ns = some s → s[i]? = some x → ns[2 * i]? = some x.1 ∧ ns[2 * i + 1]? = some x.2
  | [], s, i, x, h, hx => by
    have e := Option.some.inj h
    subst e
    simp at hx
  | [_], s, i, x, h, hx => by cases h
  | a :: b :: l, s, i, x, h, hx => by
    change (Sq52.pairs l).map (fun m => (a, b) :: m) = some s at h
    cases e : Sq52.pairs l with
    | none => rw [e] at h; cases h
    | some t =>
      rw [e] at h
      have e2 := Option.some.inj h
      subst e2
      cases i with
      | zero =>
        have e3 := Option.some.inj hx
        subst e3
        exact ⟨rfl, rfl⟩
      | succ i =>
        have := pairs_get (i := i) (x := x) e hx
        rw [show 2 * (i + 1) = (2 * i) + 1 + 1 by omega]
        exact this
theorem pairs_odd : ∀ {ns : List Nat}, Sq52.pairs ns = none ↔ ns.length % 2 = 1
  | [] => by simp [Sq52.pairs]
  | [_] => by simp [Sq52.pairs]
  | a :: b :: l => by
    have ih := pairs_odd (ns := l)
    show (Sq52.pairs l).map (fun m => (a, b) :: m) = none ↔ _
    rw [Option.map_eq_none_iff, ih, List.length_cons, List.length_cons]
    omega
def spThings (K : PySem.W.Frag) : Sp := fun vs H Q _ => ∃ (a : Addr) (ns : List Nat) (s : List Sq52.Item), vs = [.ref a] ∧ SqL K H a (vns ns) ∧ ns.length ≤ 1024 ∧ Sq52.pairs ns = some s ∧ ∀ H' v, Same H H' → RowT H' v s → Q v H'
section
variable {P : Program} {w : World} {K : PySem.W.Frag} {mg : Str → Option Value} {base : Heap}
theorem rg2 {n : Nat} (h : n ≤ 1024) : RgC 0 ((2 * n : Nat) : Int) 2 n := by
  refine ⟨by decide, by decide, ?_, ?_⟩
  · unfold Builtin.Range.small
    simp [Builtin.Range.rangeFitsLong, Builtin.Range.rangeSize]
    omega
  · unfold Builtin.Range.rangeSize
    simp
    omega
theorem ok_things {f : Addr} {fd : FuncData} {k : Nat} (F : Fun K "things_of" "things_of" sThings f fd) (ml : mg "len" = none) (mr : mg "range" = none) : FnOk P w K mg base CX0 (k + 1) f fd ["numbers"] (spThings K) := by
  refine F.ok scThings (fun vs H Q E h => ?_) (fun cdv A outer s H vs Q E hr h => ?_)
  · obtain ⟨a, ns, s, rfl, _⟩ := h
    rfl
  · obtain ⟨a, ns, s, rfl, hS, hlen, hp, q⟩ := h
    refine ⟨_, pss_one (ps_ret (pe_lc (own := [("at", 1)]) (g := gName 1) (tt := tYes) rfl scThings.nd (pi_range3 rfl mr (pa_cons pe_int (pa_cons (pe_callB call_len_seq (by rfl) ml PySem.boot_len (pa_cons (pv 0) pa_nil)) (pa_cons pe_int pa_nil))))
      (blkOk_by (N := ["numbers", "at"]) (sc := defScope sThings) (by decide +kernel)) (fun _ _ _ _ _ => pg_name (i := 1) scThings.nd rfl (.inl rfl)) (fun _ _ _ _ _ => pts_nil)
      (fun _ _ _ _ _ => pe_tup (pa_cons (pe_ix (ixl (K := K)) (pv 0) (pv 1) (fun _ _ => rfl)) (pa_cons (pe_ix (ixl (K := K)) (pv 0) (pe_op op_add (pv 1) pe_int) (fun _ _ => rfl)) pa_nil))))), ?_⟩
    have hl := pairs_len hp
    refine ⟨.ref a, rfl, a, _, rfl, .inl hS, 0, _, 2, s.length, rfl, ?_, fun D nD => ?_⟩
    · rw [vns_len, hl]
      exact rg2 (by omega)
    refine lc_it (walk_rangeC (lo := 0) (c := 2) (n := s.length)) (fun i H' => ∃ vs, Same H H' ∧ H' D = some (.lst vs) ∧ All2 (PairT (off H' D)) vs (s.take i)) ⟨[], same_upd nD, upd_same, .nil⟩ (fun _ _ _ _ => trivial) ?_ ?_
    · rintro i x H2 H3 hi ⟨vs, s2, e2, al⟩ ⟨rfl, rfl⟩
      have hx : s[i]? = some s[i] := List.getElem?_eq_getElem hi
      obtain ⟨g1, g2⟩ := pairs_get hp hx
      refine ⟨rfl, yesT ?_⟩
      refine ⟨_, rfl, _, rfl, a, _, _, _, rfl, rfl, s2.seq hS, at_of (j := 2 * i) (by omega) (vns_get g1), _, rfl, _, rfl, _, _, rfl, rfl, a, _, _, _, rfl, rfl, s2.seq hS, at_of (j := 2 * i + 1) (by omega) (vns_get g2), (by show 2 ≤ sizeLine; decide), fun t nt => ?_⟩
      have st : Same H3 (upd H3 t (.tup [.int (s[i].1 : Int), .int (s[i].2 : Int)])) := same_upd nt
      have hl2 := al.len
      rw [List.length_take] at hl2
      refine ⟨vs, st _ _ e2, line' (by omega), vs ++ [.ref t], same_put (s2.trans st) nD, upd_same, ?_⟩
      rw [List.take_add_one, hx]
      refine All2.snoc (al.mono fun v x q => q.same (off_put st)) ⟨t, rfl, ?_⟩
      rw [off_upd, off_ne (ne2 e2 nt), upd_same]
      rfl
    · rintro H2 ⟨vs, s2, e2, al⟩
      rw [List.take_length] at al
      exact q _ _ s2 ⟨D, vs, rfl, e2, al.mono fun v x q => q.same (off_same _ _)⟩
end
end Ps

set_option Elab.async false
set_option linter.all false
set_option maxRecDepth 100000
set_option maxHeartbeats 4000000
namespace Ps
open PySem PySem.Spec PyProof.Rows L2
abbrev sPlaces : Stmt := topS 17
theorem scPlaces : FnScope ["row", "things", "place_of", "place", "thing", "places"] ["row", "things"] (defScope sPlaces) := ⟨rfl, rfl, rfl, by decide +kernel, rfl, by decide +kernel, by decide +kernel⟩
def key (x : Sq52.Item) : List Key := [Sum.inl (x.1 : Int), Sum.inl (x.2 : Int)]
theorem key_inj {x y : Sq52.Item} (h : key x = key y) : x = y := by
  unfold key at h
  injection h with h1 h2
  injection h2 with h2 _
  injection h1 with h1
  injection h2 with h2
  exact Prod.ext (by omega) (by omega)
def spPlaces : Sp := fun vs H Q _ => ∃ (r t : V) (row s : List Sq52.Item), vs = [r, t] ∧ RowT H r row ∧ row.Nodup ∧ row.length ≤ 60 ∧ RowT H t s ∧ s.length ≤ 1024 ∧
  (placesOf row s = none → ∀ H', Same H H' → Q .non H') ∧ (∀ ps, placesOf row s = some ps → ∀ H' v, Same H H' → NatsT H' v ps → Q v H')
section
variable {P : Program} {w : World} {K : PySem.W.Frag} {mg : Str → Option Value} {base : Heap}
theorem ok_places {f : Addr} {fd : FuncData} {k : Nat} (F : Fun K "places_of" "places_of" sPlaces f fd) (me : mg "enumerate" = none) : FnOk P w K mg base CX0 (k + 1) f fd ["row", "things"] spPlaces := by
  refine F.ok scPlaces (fun vs H Q E h => ?_) (fun cdv A outer s H vs Q E hr h => ?_)
  · obtain ⟨r, t, row, s, rfl, _⟩ := h
    rfl
  · obtain ⟨r, t, row, s, rfl, hR, nd, hrl, hT, hsl, qN, qS⟩ := h
    have hu := hu_of hr
    obtain ⟨ra, rvs, rfl, er, ar⟩ := hR
    obtain ⟨ta, tvs, rfl, et, at_⟩ := hT
    have hrv := ar.len
    have htv := at_.len
    refine ⟨_, pss_cons (ps_set (i := 2) scPlaces.nd rfl (.inl rfl) pe_dnewT)
      (pss_cons (ps_for PassesOwn.never rfl (pi_enum (by rfl) me (pa_cons (pv 0) pa_nil))
          (pg_tup rfl (pgs_cons (pg_name (i := 3) scPlaces.nd rfl (.inl rfl)) (pgs_cons (pg_name (i := 4) scPlaces.nd rfl (.inl rfl)) pgs_nil)))
        (pss_one (ps_dput hu (pv 2) (pv 4) (pv 3) rfl)))
      (pss_cons (ps_set (i := 5) scPlaces.nd rfl (.inl rfl) (pe_lst pa_nil))
      (pss_cons (ps_for PassesOwn.never rfl (pi_list (pv 1)) (pg_name (i := 4) scPlaces.nd rfl (.inl rfl))
        (pss_cons (ps_if (pt_cmp (pc_dnotin hu (pv 4) (pv 2))) (pss_one (ps_ret pe_non)) pss_nil)
        (pss_one (ps_expr (pe_bm PySem.F.plainAttrs_list PySem.F.slot_list_append PySem.F.type_list_append mt_append (pv 5) (pa_cons (pe_dget hu (pv 2) (pv 4) (fun _ _ => rfl)) pa_nil))))))
      (pss_one (ps_ret (pv 5)))))), ?_⟩
    intro d nd_
    have s1 : Same H (upd H d (.dT [])) := same_upd nd_
    refine ⟨.ref ra, rfl, ra, rvs, rfl, SqL.of (s1 _ _ er), for_it (walk_enum (xs := rvs)) (fun i σ H' => ∃ kvs x3 x4, σ = [some (.ref ra), some (.ref ta), some (.ref d), x3, x4, none] ∧ Same H H' ∧ H' d = some (.dT kvs) ∧ kvs.length = i ∧ ∀ x, valV kvs (key x) = if row.idxOf x < i then some (vn (row.idxOf x)) else none)
      ⟨[], none, none, rfl, s1, upd_same, rfl, fun x => by rw [if_neg (by omega)]; rfl⟩ (fun i σ H' _ ⟨_, _, _, _, s2, _⟩ => SqL.of (s2 _ _ er)) ?_ ?_⟩
    · rintro i x σ H2 H3 hi ⟨kvs, x3, x4, rfl, s2, e2, hkl, hkv⟩ ⟨T, v1, v2, rfl, nT, rfl, ev1, ev2⟩
      have e1 := (Option.some.inj ev1).symm
      subst e1
      obtain ⟨x, ex, xa, rfl, hx⟩ := ar.get' ev2
      have sT : Same H2 (upd H2 T (.tup [.int (i : Nat), .ref xa])) := same_upd nT
      refine ⟨T, _, rfl, SqT.of upd_same, rfl, _, _, rfl, _, _, rfl, rfl, ?_⟩
      have hnew : valV kvs (key x) = none := by
        obtain ⟨hi', ei⟩ := List.getElem?_eq_some_iff.mp ex
        rw [hkv, if_neg]
        have := plc_of nd ex
        unfold plc at this
        by_cases c : row.idxOf x < row.length
        · rw [if_pos c] at this
          have := Option.some.inj this
          omega
        · rw [if_neg c] at this
          cases this
      have hidx : row.idxOf x = i := by
        have := plc_of nd ex
        unfold plc at this
        by_cases c : row.idxOf x < row.length
        · rw [if_pos c] at this
          exact Option.some.inj this
        · rw [if_neg c] at this
          cases this
      refine ⟨_, rfl, _, rfl, _, rfl, d, _, rfl, DPut.t (k := key x) (sT _ _ e2) (sT _ _ (s2 _ _ hx)) (line' (by omega)), ?_⟩
      refine ⟨putK kvs (key x) (.int (i : Nat)), _, _, rfl, same_put (s2.trans sT) nd_, upd_same, ?_, fun y => ?_⟩
      · rw [putK_new _ hnew, List.length_append, hkl]
        rfl
      · rw [valV_put]
        by_cases c : y = x
        · subst c
          rw [if_pos rfl, hidx, if_pos (by omega)]
          rfl
        · rw [if_neg (fun q => c (key_inj q)), hkv]
          have hne : row.idxOf y ≠ i := fun q => by
            obtain ⟨hi', ei⟩ := List.getElem?_eq_some_iff.mp ex
            have hy : row.idxOf y < row.length := by omega
            have := List.getElem_idxOf hy
            apply c
            rw [← this, ← ei]
            congr 1
          by_cases c2 : row.idxOf y < i
          · rw [if_pos c2, if_pos (by omega)]
          · rw [if_neg c2, if_neg (by omega)]
    · rintro σ H2 ⟨kvs, x3, x4, rfl, s2, e2, hkl, hkv⟩
      have hkv' : ∀ x, valV kvs (key x) = (plc row x).map vn := fun x => by
        rw [hkv, hrv]
        unfold plc
        by_cases c : row.idxOf x < row.length
        · rw [if_pos c, if_pos c]
          rfl
        · rw [if_neg c, if_neg c]
          rfl
      refine ⟨Nat.zero_le _, fun p np => ?_⟩
      have sp : Same H2 (upd H2 p (.lst [])) := same_upd np
      have np0 : H p = none := s2.free np
      refine ⟨_, rfl, ta, rfl, ⟨_, SqL.of (sp _ _ (s2 _ _ et))⟩, for_it (walk_list (xs := tvs)) (fun i σ H' => ∃ ps x3 x4, σ = [some (.ref ra), some (.ref ta), some (.ref d), x3, x4, some (.ref p)] ∧ Same H H' ∧ H' d = some (.dT kvs) ∧ H' p = some (.lst (vns ps)) ∧ placesOf row (s.take i) = some ps)
        ⟨[], _, _, rfl, s2.trans sp, sp _ _ e2, upd_same, rfl⟩ (fun i σ H' _ ⟨_, _, _, _, s3, _⟩ => SqL.of (s3 _ _ et)) ?_ ?_⟩
      · rintro i x σ H3 H4 hi ⟨ps, x3, x4, rfl, s3, e3, ep, hpl⟩ ⟨rfl, ev⟩
        obtain ⟨x, ex, xa, rfl, hx⟩ := at_.get' ev
        have dg : DGet H4 d (.ref xa) (valV kvs (key x)) := DGet.t (k := key x) e3 (s3 _ _ hx)
        have hnp : d ≠ p := ne_of e3 ep (by intro z; cases z)
        rw [hkv'] at dg
        refine ⟨_, rfl, _, rfl, d, _, rfl, dg, _, rfl, ?_⟩
        cases q : plc row x with
        | none =>
          refine itT rfl ?_
          refine qN ?_ _ s3
          have hsplit : s = s.take i ++ x :: s.drop (i + 1) := by
            obtain ⟨hi', ei⟩ := List.getElem?_eq_some_iff.mp ex
            rw [← ei, ← List.drop_eq_getElem_cons hi', List.take_append_drop]
          rw [hsplit]
          exact placesOf_none row x q _ _
        | some j =>
          refine itF rfl ?_
          rw [q] at dg
          have hl := placesOf_len hpl
          rw [List.length_take] at hl
          refine ⟨_, rfl, .inl ⟨rfl, _, SqL.of ep⟩, _, rfl, _, rfl, d, _, rfl, dg, p, _, _, rfl, rfl, ep, ?_, ?_⟩
          · rw [vns_len]
            exact line' (by omega)
          · refine ⟨ps ++ [j], _, _, rfl, same_put s3 np0, ?_, ?_, ?_⟩
            · rw [upd_ne hnp]
              exact e3
            · rw [upd_same]
              unfold vns
              rw [List.map_append]
              rfl
            · rw [List.take_add_one, ex]
              exact placesOf_append row x _ ps j hpl q
      · rintro σ H3 ⟨ps, x3, x4, rfl, s3, e3, ep, hpl⟩
        rw [htv, List.take_length] at hpl
        exact ⟨_, rfl, qS ps hpl _ _ s3 ⟨p, rfl, ep⟩⟩
end
abbrev sOrd : Stmt := topS 18
theorem scOrd : FnScope ["places", "repeats", "at"] ["places", "repeats"] (defScope sOrd) := ⟨rfl, rfl, rfl, by decide +kernel, rfl, by decide +kernel, by decide +kernel⟩
theorem inOrd_iff (once : Bool) : ∀ ps : List Nat, inOrd once ps = true ↔ ∀ j a b, ps[j]? = some a → ps[j + 1]? = some b → a + hop once ≤ b
  | [] => by simp [inOrd]
  | [a] => by simp [inOrd]
  | a :: b :: l => by
    show (decide (a + hop once ≤ b) && inOrd once (b :: l)) = true ↔ _
    rw [Bool.and_eq_true, decide_eq_true_eq, inOrd_iff once (b :: l)]
    constructor
    · rintro ⟨h1, h2⟩ j x y hx hy
      cases j with
      | zero =>
        have e1 := Option.some.inj hx
        have e2 := Option.some.inj hy
        subst e1 e2
        exact h1
      | succ j => exact h2 j x y hx hy
    · intro h
      exact ⟨h 0 a b rfl rfl, fun j x y hx hy => h (j + 1) x y hx hy⟩
def spOrd : Sp := fun vs H Q _ => ∃ (p : Addr) (ps : List Nat) (once : Bool), vs = [.ref p, vn (hop once)] ∧ H p = some (.lst (vns ps)) ∧ ps.length ≤ 1024 ∧ Q (.bl (inOrd once ps)) H
section
variable {P : Program} {w : World} {K : PySem.W.Frag} {mg : Str → Option Value} {base : Heap}
theorem ok_ord {f : Addr} {fd : FuncData} {k : Nat} (F : Fun K "are_in_order" "are_in_order" sOrd f fd) (ml : mg "len" = none) (mr : mg "range" = none) : FnOk P w K mg base CX0 (k + 1) f fd ["places", "repeats"] spOrd := by
  refine F.ok scOrd (fun vs H Q E h => ?_) (fun cdv A outer s H vs Q E hr h => ?_)
  · obtain ⟨p, ps, once, rfl, _⟩ := h
    rfl
  · obtain ⟨p, ps, once, rfl, ep, hl, q⟩ := h
    refine ⟨_, pss_cons (ps_for PassesOwn.never rfl (pi_range2 (by rfl) mr (pa_cons pe_int (pa_cons (pe_callB call_len_seq (by rfl) ml PySem.boot_len (pa_cons (pv 0) pa_nil)) pa_nil))) (pg_name (i := 2) scOrd.nd rfl (.inl rfl))
        (pss_one (ps_if (pt_cmpR op_lt (pe_ix ix_list (pv 0) (pv 2) (fun _ _ => rfl)) (pe_op op_add (pe_ix ix_list (pv 0) (pe_op op_sub (pv 2) pe_int) (fun _ _ => rfl)) (pv 1)) (nomark _)) (pss_one (ps_ret pe_bl)) pss_nil)))
      (pss_one (ps_ret pe_bl)), ?_⟩
    refine ⟨_, rfl, p, _, rfl, .inl (SqL.of ep), 1, _, rfl, ⟨by decide, by decide, by omega, ?_⟩, ?_⟩
    · rw [vns_len]
      omega
    rw [vns_len]
    refine for_it (walk_range (lo := 1) (n := ((ps.length : Int) - 1).toNat)) (fun i σ H' => ∃ x2, σ = [some (.ref p), some (vn (hop once)), x2] ∧ H' = H ∧ ∀ j a b, j < i → ps[j]? = some a → ps[j + 1]? = some b → a + hop once ≤ b)
      ⟨none, rfl, rfl, fun j a b h => absurd h (by omega)⟩ (fun _ _ _ _ _ => trivial) ?_ ?_
    · rintro i x σ H2 H3 hi ⟨x2, rfl, rfl, hj⟩ ⟨rfl, rfl⟩
      have h1 : i + 1 < ps.length := by omega
      have g1 : ps[i]? = some ps[i] := List.getElem?_eq_getElem (by omega)
      have g2 : ps[i + 1]? = some ps[i + 1] := List.getElem?_eq_getElem h1
      refine ⟨_, rfl, _, rfl, p, _, _, _, rfl, rfl, SqL.of ep, at_of (j := i + 1) (by omega) (vns_get g2), _, rfl, _, rfl, _, _, rfl, rfl, p, _, _, _, rfl, rfl, SqL.of ep, at_of (j := i) (by omega) (vns_get g1), _, rfl, _, _, rfl, rfl, _, _, rfl, rfl, _, rfl, ?_⟩
      by_cases c : ps[i] + hop once ≤ ps[i + 1]
      · refine itF (decide_eq_false (by omega)) ?_
        refine ⟨_, rfl, rfl, fun j a b hji ha hb => ?_⟩
        by_cases e : j < i
        · exact hj j a b e ha hb
        · have : j = i := by omega
          subst this
          rw [g1] at ha
          rw [g2] at hb
          have ha := Option.some.inj ha
          have hb := Option.some.inj hb
          subst ha hb
          exact c
      · refine itT (decide_eq_true (by omega)) ?_
        have : inOrd once ps = false := by
          rw [Bool.eq_false_iff]
          intro z
          exact c ((inOrd_iff once ps).mp z i _ _ g1 g2)
        rw [this] at q
        exact q
    · rintro σ H2 ⟨x2, rfl, rfl, hj⟩
      have : inOrd once ps = true := (inOrd_iff once ps).mpr fun j a b ha hb => hj j a b (by
        have := (List.getElem?_eq_some_iff.mp hb).1
        omega) ha hb
      rw [this] at q
      exact q
end
end Ps

set_option Elab.async false
set_option linter.all false
set_option maxRecDepth 100000
set_option maxHeartbeats 4000000
namespace Ps
open PySem PySem.Spec PyProof.Rows L2
def gRow (once : Bool) (lo hi : Nat) (l : List Sq52.Item) (size n : Nat) : List Nat := (List.range (size + 1 - n)).map fun u => W once lo hi l n u
def gridOf (once : Bool) (lo hi : Nat) (l : List Sq52.Item) (size : Nat) : List (List Nat) := (List.range (size + 1)).map fun n => gRow once lo hi l size n
theorem grid_get {once : Bool} {lo hi : Nat} {l : List Sq52.Item} {size n : Nat} (h : n ≤ size) : (gridOf once lo hi l size)[n]? = some (gRow once lo hi l size n) := by
  unfold gridOf
  rw [List.getElem?_map, List.getElem?_range (by omega)]
  rfl
theorem gRow_get {once : Bool} {lo hi : Nat} {l : List Sq52.Item} {size n u : Nat} (h : n + u ≤ size) : (gRow once lo hi l size n)[u]? = some (W once lo hi l n u) := by
  unfold gRow
  rw [List.getElem?_map, List.getElem?_range (by omega)]
  rfl
theorem gridOf_len (once : Bool) (lo hi : Nat) (l : List Sq52.Item) (size : Nat) : (gridOf once lo hi l size).length = size + 1 := by
  unfold gridOf
  rw [List.length_map, List.length_range]
theorem gRow_len (once : Bool) (lo hi : Nat) (l : List Sq52.Item) (size n : Nat) : (gRow once lo hi l size n).length = size + 1 - n := by
  unfold gRow
  rw [List.length_map, List.length_range]
theorem gRow_nil (once : Bool) (lo hi size n : Nat) (h : 0 < n) : gRow once lo hi [] size n = List.replicate (size + 1 - n) 0 := by
  unfold gRow
  have e : (fun u => W once lo hi [] n u) = fun _ => 0 := by
    funext u
    rw [W_nil, if_neg (by omega)]
  rw [e, List.map_const', List.length_range]
theorem flat_zero (n : Nat) : (List.replicate n [V.int 0]).flatten = vns (List.replicate n 0) := by
  induction n with
  | zero => rfl
  | succ n ih => rw [List.replicate_succ, List.flatten_cons, ih, List.replicate_succ]; rfl
abbrev sBehind : Stmt := topS 20
theorem scBehind : FnScope ["size", "lo", "hi", "ways", "left", "used"] ["size", "lo", "hi"] (defScope sBehind) := ⟨rfl, rfl, rfl, by decide +kernel, rfl, by decide +kernel, by decide +kernel⟩
def spBehind : Sp := fun vs H Q _ => ∃ size lo hi : Nat, vs = [vn size, vn lo, vn hi] ∧ size ≤ 60 ∧ ∀ H' v, Same H H' → (∀ once, GridT H' v (gridOf once lo hi [] size)) → Q v H'
section
variable {P : Program} {w : World} {K : PySem.W.Frag} {mg : Str → Option Value} {base : Heap}
theorem ok_behind {f : Addr} {fd : FuncData} {k : Nat} (F : Fun K "ways_behind_all" "ways_behind_all" sBehind f fd) (mr : mg "range" = none) : FnOk P w K mg base CX0 (k + 1) f fd ["size", "lo", "hi"] spBehind := by
  refine F.ok scBehind (fun vs H Q E h => ?_) (fun cdv A outer s H vs Q E hr h => ?_)
  · obtain ⟨size, lo, hi, rfl, _⟩ := h
    rfl
  · obtain ⟨size, lo, hi, rfl, hz, q⟩ := h
    refine ⟨_, pss_cons (ps_set (i := 3) scBehind.nd rfl (.inl rfl) (pe_lst (pa_cons (pe_lc (own := [("used", 5)]) (g := gName 5) (tt := tYes) rfl scBehind.nd (pi_range1 rfl mr (pa_cons (pe_op op_add (pv 0) pe_int) pa_nil))
          (blkOk_by (N := ["size", "lo", "hi", "ways", "left", "used"]) (sc := defScope sBehind) (by decide +kernel)) (fun _ _ _ _ _ => pg_name (i := 5) scBehind.nd rfl (.inl rfl)) (fun _ _ _ _ _ => pts_nil)
          (fun _ _ _ _ _ => pe_ifExp (PW.pt (pw_and (pt_cmpR op_le (pv 1) (pv 5) (nomark _)) (pw_and1 (pt_cmpR op_le (pv 5) (pv 2) (nomark _))))) pe_int pe_int)) pa_nil)))
      (pss_cons (ps_for PassesOwn.never rfl (pi_range2 (by rfl) mr (pa_cons pe_int (pa_cons (pe_op op_add (pv 0) pe_int) pa_nil))) (pg_name (i := 4) scBehind.nd rfl (.inl rfl))
        (pss_one (ps_expr (pe_bm PySem.F.plainAttrs_list PySem.F.slot_list_append PySem.F.type_list_append mt_append (pv 3) (pa_cons (pe_op op_rep (pe_lst (pa_cons pe_int pa_nil)) (pe_op op_sub (pe_op op_add (pv 0) pe_int) (pv 4))) pa_nil)))))
      (pss_one (ps_ret (pv 3)))), ?_⟩
    refine ⟨_, rfl, _, _, rfl, rfl, _, rfl, by omega, by omega, fun D nD => ?_⟩
    have e0 : (((size : Nat) : Int) + 1).toNat = size + 1 := by omega
    rw [e0]
    refine lc_it (walk_range (lo := 0) (n := size + 1)) (fun i H' => Same H H' ∧ H' D = some (.lst (vns ((List.range i).map fun u => W true lo hi [] 0 u)))) ⟨same_upd nD, upd_same⟩ (fun _ _ _ _ => trivial) ?_ ?_
    · rintro i x H2 H3 hi' ⟨s2, e2⟩ ⟨rfl, rfl⟩
      refine ⟨rfl, yesT ?_⟩
      have fin : ∀ z : Int, z = ((W true lo hi [] 0 i : Nat) : Int) → ∃ acc, H3 D = some (HO.lst acc) ∧ acc.length < sizeLine ∧ Same H (upd H3 D (.lst (acc ++ [V.int z]))) ∧ upd H3 D (.lst (acc ++ [V.int z])) D = some (.lst (vns ((List.range (i + 1)).map fun u => W true lo hi [] 0 u))) := fun z hz' => by
        refine ⟨_, e2, ?_, same_put s2 nD, ?_⟩
        · rw [vns_len, List.length_map, List.length_range]
          exact line' (by omega)
        · rw [upd_same, List.range_succ, List.map_append, hz']
          unfold vns
          rw [List.map_append]
          rfl
      refine ⟨_, rfl, _, rfl, _, _, rfl, rfl, _, rfl, ?_⟩
      by_cases c1 : lo ≤ i
      · refine itT (decide_eq_true (by omega)) ?_
        refine ⟨_, rfl, _, rfl, _, _, rfl, rfl, _, rfl, ?_⟩
        by_cases c2 : i ≤ hi
        · refine itT (decide_eq_true (by omega)) (fin 1 ?_)
          rw [W_nil, if_pos ⟨rfl, c1, c2⟩]
          rfl
        · refine itF (decide_eq_false (by omega)) (fin 0 ?_)
          rw [W_nil, if_neg (fun z => c2 z.2.2)]
          rfl
      · refine itF (decide_eq_false (by omega)) ?_
        refine iteF (fin 0 ?_)
        rw [W_nil, if_neg (fun z => c1 z.2.1)]
        rfl
    · rintro H2 ⟨s2, e2⟩
      refine ⟨(by show 1 ≤ sizeLine; decide), fun p np => ?_⟩
      have sp : Same H2 (upd H2 p (.lst [.ref D])) := same_upd np
      have np0 : H p = none := s2.free np
      have hDp : D ≠ p := ne_of_none e2 np
      refine ⟨_, rfl, _, _, rfl, rfl, 1, _, rfl, ⟨by decide, by decide, by omega, by omega⟩, ?_⟩
      have e1 : (((size : Nat) : Int) + 1 - 1).toNat = size := by omega
      rw [e1]
      refine for_it (walk_range (lo := 1) (n := size)) (fun i σ H' => ∃ vs x4, σ = [some (vn size), some (vn lo), some (vn hi), some (.ref p), x4, none] ∧ Same H H' ∧ H' p = some (.lst vs) ∧ All2 (NatsT (off H' p)) vs ((List.range (i + 1)).map fun n => gRow true lo hi [] size n))
        ⟨[.ref D], none, rfl, s2.trans sp, upd_same, .cons ⟨D, rfl, ?_⟩ .nil⟩ (fun _ _ _ _ _ => trivial) ?_ ?_
      · rw [off_upd, off_ne hDp, e2]
        rfl
      · rintro i x σ H3 H4 hi' ⟨vs, x4, rfl, s3, e3, al⟩ ⟨rfl, rfl⟩
        refine ⟨_, rfl, .inl ⟨rfl, _, SqL.of e3⟩, by decide, fun z nz => ?_⟩
        have sz1 : Same H4 (upd H4 z (.lst [.int 0])) := same_upd nz
        refine ⟨_, rfl, _, _, rfl, rfl, _, rfl, _, _, rfl, rfl, z, _, _, rfl, rfl, upd_same, by omega, by omega, ?_, fun y ny => ?_⟩
        · exact line (by simp only [List.length_singleton]; omega)
        have nzp : z ≠ p := ne2 e3 nz
        have sy := sz1.trans (same_upd (o := .lst (List.flatten (List.replicate (((size : Int) + 1) - (1 + (i : Int))).toNat [V.int 0]))) ny)
        have nyp : y ≠ p := ne2 (sz1 _ _ e3) ny
        have hl := al.len
        rw [List.length_map, List.length_range] at hl
        refine ⟨p, _, _, rfl, rfl, sy _ _ e3, line' (by omega), ?_⟩
        refine ⟨vs ++ [.ref y], _, rfl, same_put (s3.trans sy) np0, upd_same, ?_⟩
        rw [List.range_succ, List.map_append]
        refine (al.mono fun _ _ q => q.same (off_put sy)).snoc ⟨y, rfl, ?_⟩
        rw [off_upd, off_ne nyp, upd_same, flat_zero, show (((size : Int) + 1) - (1 + (i : Int))).toNat = size + 1 - (i + 1) by omega, ← gRow_nil true lo hi size (i + 1) (by omega)]
      · rintro σ H3 ⟨vs, x4, rfl, s3, e3, al⟩
        refine ⟨_, rfl, q _ _ s3 fun once => ⟨p, vs, rfl, e3, ?_⟩⟩
        have eg : gridOf once lo hi [] size = (List.range (size + 1)).map fun n => gRow true lo hi [] size n := by
          unfold gridOf gRow
          refine List.map_congr_left fun n _ => List.map_congr_left fun u _ => ?_
          rw [W_nil, W_nil]
        rw [eg]
        exact al.mono fun _ _ q => q.same (off_same _ _)
end
abbrev sWith : Stmt := topS 21
theorem scWith : FnScope ["later", "weight", "repeats", "here", "left", "skipped", "taken", "used"] ["later", "weight", "repeats"] (defScope sWith) := ⟨rfl, rfl, rfl, by decide +kernel, rfl, by decide +kernel, by decide +kernel⟩
def spWith : Sp := fun vs H Q _ => ∃ (g : V) (once : Bool) (lo hi size : Nat) (x : Sq52.Item) (r : List Sq52.Item), vs = [g, vn x.1, vn (hop once)] ∧ size ≤ 60 ∧ Pos (x :: r) ∧ GridT H g (gridOf once lo hi r size) ∧
  ∀ H' v, Same H H' → GridT H' v (gridOf once lo hi (x :: r) size) → Q v H'
theorem gRow_low (once : Bool) (lo hi : Nat) (x : Sq52.Item) (r : List Sq52.Item) (size n : Nat) (p : Pos (x :: r)) (h : n < x.1) : gRow once lo hi (x :: r) size n = gRow once lo hi r size n := by
  unfold gRow
  refine List.map_congr_left fun u _ => ?_
  rw [W_cons once lo hi x r n u p]
  unfold tk
  rw [if_neg (by omega)]
  rfl
section
variable {P : Program} {w : World} {K : PySem.W.Frag} {mg : Str → Option Value} {base : Heap}
theorem ok_with {f : Addr} {fd : FuncData} {k : Nat} (F : Fun K "ways_with_thing" "ways_with_thing" sWith f fd) (mr : mg "range" = none) (ml : mg "len" = none) : FnOk P w K mg base CX0 (k + 1) f fd ["later", "weight", "repeats"] spWith := by
  refine F.ok scWith (fun vs H Q E h => ?_) (fun cdv A outer s H vs Q E hr h => ?_)
  · obtain ⟨g, once, lo, hi, size, x, r, rfl, _⟩ := h
    rfl
  · obtain ⟨g, once, lo, hi, size, x, r, rfl, hz, hpos, hG, q⟩ := h
    obtain ⟨ga, gvs, rfl, eg, ag⟩ := hG
    have hgl := ag.len
    rw [gridOf_len] at hgl
    have hx1 := hpos.head
    refine ⟨_, pss_cons (ps_set (i := 3) scWith.nd rfl (.inl rfl) (pe_lst pa_nil))
      (pss_cons (ps_for PassesOwn.never rfl (pi_range1 rfl mr (pa_cons (pe_callB call_len_seq (by rfl) ml PySem.boot_len (pa_cons (pv 0) pa_nil)) pa_nil)) (pg_name (i := 4) scWith.nd rfl (.inl rfl))
        (pss_cons (ps_set (i := 5) scWith.nd rfl (.inr rfl) (pe_ix (ixl (K := K)) (pv 0) (pv 4) (fun _ _ => rfl)))
        (pss_one (ps_if (pt_cmpR op_lt (pv 4) (pv 1) (nomark _))
          (pss_one (ps_expr (pe_bm PySem.F.plainAttrs_list PySem.F.slot_list_append PySem.F.type_list_append mt_append (pv 3) (pa_cons (pv 5) pa_nil))))
          (pss_cons (ps_set (i := 6) scWith.nd rfl (.inr rfl) (pe_ifExp (pt_cmpR op_eq (pv 2) pe_int (nomark _)) (pe_ix (ixl (K := K)) (pv 3) (pe_op op_sub (pv 4) (pv 1)) (fun _ _ => rfl)) (pe_ix (ixl (K := K)) (pv 0) (pe_op op_sub (pv 4) (pv 1)) (fun _ _ => rfl))))
          (pss_one (ps_expr (pe_bm PySem.F.plainAttrs_list PySem.F.slot_list_append PySem.F.type_list_append mt_append (pv 3) (pa_cons
            (pe_lc (own := [("used", 7)]) (g := gName 7) (tt := tYes) rfl scWith.nd (pi_range1 rfl mr (pa_cons (pe_callB call_len_seq (by rfl) ml PySem.boot_len (pa_cons (pv 5) pa_nil)) pa_nil))
              (blkOk_by (N := ["later", "weight", "repeats", "here", "left", "skipped", "taken", "used"]) (sc := defScope sWith) (by decide +kernel)) (fun _ _ _ _ _ => pg_name (i := 7) scWith.nd rfl (.inl rfl)) (fun _ _ _ _ _ => pts_nil)
              (fun _ _ _ _ _ => pe_op op_add (pe_ix (ixl (K := K)) (pv 5) (pv 7) (fun _ _ => rfl)) (pe_ix (ixl (K := K)) (pv 6) (pe_op op_add (pv 7) pe_int) (fun _ _ => rfl)))) pa_nil)))))))))
      (pss_one (ps_ret (pv 3)))), ?_⟩
    refine ⟨Nat.zero_le _, fun p np => ?_⟩
    have s1 : Same H (upd H p (.lst [])) := same_upd np
    refine ⟨_, rfl, ga, gvs, rfl, .inl (SqL.of (s1 _ _ eg)), _, rfl, by omega, by omega, ?_⟩
    rw [hgl, Int.toNat_natCast]
    refine for_it (walk_range (lo := 0) (n := size + 1)) (fun i σ H' => ∃ vs x4 x5 x6, σ = [some (.ref ga), some (vn x.1), some (vn (hop once)), some (.ref p), x4, x5, x6, none] ∧ Same H H' ∧ H' p = some (.lst vs) ∧ All2 (NatsT (off H' p)) vs ((List.range i).map fun n => gRow once lo hi (x :: r) size n))
        ⟨[], none, none, none, rfl, s1, upd_same, .nil⟩ (fun _ _ _ _ _ => trivial) ?_ ?_
    · rintro n v σ H2 H3 hn ⟨vs, x4, x5, x6, rfl, s2, e2, al⟩ ⟨rfl, rfl⟩
      have hl := al.len
      rw [List.length_map, List.length_range] at hl
      -- skipped = later[left]
      obtain ⟨sv, gsv, ska, rfl, esk⟩ := ag.get (grid_get (once := once) (lo := lo) (hi := hi) (l := r) (show n ≤ size by omega))
      refine ⟨_, rfl, _, rfl, ga, _, _, _, rfl, rfl, SqL.of (s2 _ _ eg), at_of (j := n) (by omega) gsv, ?_⟩
      have esk2 := s2 _ _ esk
      have hskp : ska ≠ p := ne_of_none esk np
      refine ⟨_, rfl, _, rfl, _, _, rfl, rfl, _, rfl, ?_⟩
      by_cases c : n < x.1
      · refine itT (decide_eq_true (by omega)) ?_
        refine ⟨_, rfl, .inl ⟨rfl, _, SqL.of e2⟩, _, rfl, p, _, _, rfl, rfl, e2, line' (by omega), ?_⟩
        refine ⟨vs ++ [.ref ska], _, _, _, rfl, same_put s2 np, upd_same, ?_⟩
        rw [List.range_succ, List.map_append]
        refine (al.mono fun _ _ q => q.same (off_put (Same.refl _))).snoc ⟨ska, rfl, ?_⟩
        rw [off_upd, off_ne hskp, esk2, ← gRow_low once lo hi x r size n hpos c]
      · refine itF (decide_eq_false (by omega)) ?_
        -- taken
        have htk : ∃ ta, ta ≠ p ∧ H3 ta = some (.lst (vns (gRow once lo hi (nx once x r) size (n - x.1)))) ∧ (once = false → vs[n - x.1]? = some (.ref ta)) ∧ (once = true → gvs[n - x.1]? = some (.ref ta)) := by
          cases once with
          | false =>
            obtain ⟨tv, gtv, ta, rfl, eta⟩ := al.get (i := n - x.1) (x := gRow false lo hi (x :: r) size (n - x.1)) (by
              rw [List.getElem?_map, List.getElem?_range (by omega)]
              rfl)
            have hne : ta ≠ p := fun z => by
              rw [z] at eta
              unfold off at eta
              rw [if_pos rfl] at eta
              cases eta
            rw [off_ne hne] at eta
            exact ⟨ta, hne, eta, fun _ => gtv, fun z => by cases z⟩
          | true =>
            obtain ⟨tv, gtv, ta, rfl, eta⟩ := ag.get (grid_get (once := true) (lo := lo) (hi := hi) (l := r) (show n - x.1 ≤ size by omega))
            exact ⟨ta, ne_of_none eta np, s2 _ _ eta, (fun z => by cases z), fun _ => gtv⟩
        obtain ⟨ta, hta, eta, t1, t2⟩ := htk
        -- the new row, whatever way taken came
        cases once with
        | false =>
          refine ⟨_, rfl, rfl, _, rfl, ?_⟩
          refine itT (decide_eq_true rfl) ?_
          refine ⟨_, rfl, _, rfl, _, rfl, _, _, rfl, rfl, p, _, _, _, rfl, rfl, SqL.of e2, at_of (j := n - x.1) (by omega) (t1 rfl), ?_⟩
          refine ⟨_, rfl, .inl ⟨rfl, _, SqL.of e2⟩, _, rfl, ska, _, rfl, .inl (SqL.of esk2), _, rfl, (by rw [vns_len, gRow_len]; omega), (by rw [vns_len, gRow_len]; omega), fun D nD => ?_⟩
          rw [vns_len, gRow_len, Int.toNat_natCast]
          have hDp : D ≠ p := ne2 e2 nD
          refine lc_it (walk_range (lo := 0) (n := size + 1 - n)) (fun u H' => Same H3 H' ∧ H' D = some (.lst (vns ((List.range u).map fun u => W false lo hi (x :: r) n u)))) ⟨same_upd nD, upd_same⟩ (fun _ _ _ _ => trivial) ?_ ?_
          · rintro u v H4 H5 hu ⟨s4, e4⟩ ⟨rfl, rfl⟩
            refine ⟨rfl, yesT ?_⟩
            refine ⟨_, rfl, _, rfl, ska, _, _, _, rfl, rfl, SqL.of (s4 _ _ esk2), at_of (j := u) (by omega) (vns_get (gRow_get (by omega))), _, rfl, _, rfl, _, _, rfl, rfl, ta, _, _, _, rfl, rfl, SqL.of (s4 _ _ eta), at_of (j := u + 1) (by omega) (vns_get (gRow_get (by omega))), _, _, rfl, rfl, _, e4, ?_, same_put s4 nD, ?_⟩
            · rw [vns_len, List.length_map, List.length_range]
              exact line' (by omega)
            · rw [upd_same, List.range_succ, List.map_append]
              unfold vns
              rw [List.map_append]
              have ew : W false lo hi (x :: r) n u = W false lo hi r n u + W false lo hi (nx false x r) (n - x.1) (u + 1) := by
                rw [W_cons false lo hi x r n u hpos]
                unfold tk
                rw [if_pos (show x.1 ≤ n by omega)]
              show _ = some (HO.lst (_ ++ [V.int ((W false lo hi (x :: r) n u : Nat) : Int)]))
              rw [ew, Int.natCast_add]
          · rintro H4 ⟨s4, e4⟩
            refine ⟨p, _, _, rfl, rfl, s4 _ _ e2, line' (by omega), ?_⟩
            refine ⟨vs ++ [.ref D], _, _, _, rfl, same_put (s2.trans s4) np, upd_same, ?_⟩
            rw [List.range_succ, List.map_append]
            refine (al.mono fun _ _ q => q.same (off_put s4)).snoc ⟨D, rfl, ?_⟩
            rw [off_upd, off_ne hDp, e4]
            rfl
        | true =>
          refine ⟨_, rfl, rfl, _, rfl, ?_⟩
          refine itF (decide_eq_false (fun z => absurd (V.int.inj z) (by decide))) ?_
          refine ⟨_, rfl, _, rfl, _, rfl, _, _, rfl, rfl, ga, _, _, _, rfl, rfl, SqL.of (s2 _ _ eg), at_of (j := n - x.1) (by omega) (t2 rfl), ?_⟩
          refine ⟨_, rfl, .inl ⟨rfl, _, SqL.of e2⟩, _, rfl, ska, _, rfl, .inl (SqL.of esk2), _, rfl, (by rw [vns_len, gRow_len]; omega), (by rw [vns_len, gRow_len]; omega), fun D nD => ?_⟩
          rw [vns_len, gRow_len, Int.toNat_natCast]
          have hDp : D ≠ p := ne2 e2 nD
          refine lc_it (walk_range (lo := 0) (n := size + 1 - n)) (fun u H' => Same H3 H' ∧ H' D = some (.lst (vns ((List.range u).map fun u => W true lo hi (x :: r) n u)))) ⟨same_upd nD, upd_same⟩ (fun _ _ _ _ => trivial) ?_ ?_
          · rintro u v H4 H5 hu ⟨s4, e4⟩ ⟨rfl, rfl⟩
            refine ⟨rfl, yesT ?_⟩
            refine ⟨_, rfl, _, rfl, ska, _, _, _, rfl, rfl, SqL.of (s4 _ _ esk2), at_of (j := u) (by omega) (vns_get (gRow_get (by omega))), _, rfl, _, rfl, _, _, rfl, rfl, ta, _, _, _, rfl, rfl, SqL.of (s4 _ _ eta), at_of (j := u + 1) (by omega) (vns_get (gRow_get (by omega))), _, _, rfl, rfl, _, e4, ?_, same_put s4 nD, ?_⟩
            · rw [vns_len, List.length_map, List.length_range]
              exact line' (by omega)
            · rw [upd_same, List.range_succ, List.map_append]
              unfold vns
              rw [List.map_append]
              have ew : W true lo hi (x :: r) n u = W true lo hi r n u + W true lo hi (nx true x r) (n - x.1) (u + 1) := by
                rw [W_cons true lo hi x r n u hpos]
                unfold tk
                rw [if_pos (show x.1 ≤ n by omega)]
              show _ = some (HO.lst (_ ++ [V.int ((W true lo hi (x :: r) n u : Nat) : Int)]))
              rw [ew, Int.natCast_add]
          · rintro H4 ⟨s4, e4⟩
            refine ⟨p, _, _, rfl, rfl, s4 _ _ e2, line' (by omega), ?_⟩
            refine ⟨vs ++ [.ref D], _, _, _, rfl, same_put (s2.trans s4) np, upd_same, ?_⟩
            rw [List.range_succ, List.map_append]
            refine (al.mono fun _ _ q => q.same (off_put s4)).snoc ⟨D, rfl, ?_⟩
            rw [off_upd, off_ne hDp, e4]
            rfl
    · rintro σ H2 ⟨vs, x4, x5, x6, rfl, s2, e2, al⟩
      exact ⟨_, rfl, q _ _ s2 ⟨p, vs, rfl, e2, al.mono fun _ _ q => q.same (off_same _ _)⟩⟩
end
end Ps

set_option Elab.async false
set_option linter.all false
set_option maxRecDepth 100000
set_option maxHeartbeats 4000000
namespace Ps
open PySem PySem.Spec PyProof.Rows L2
def tabOf (once : Bool) (lo hi : Nat) (row : List Sq52.Item) (size : Nat) : List (List (List Nat)) := (List.range (row.length + 1)).map fun i => gridOf once lo hi (row.drop i) size
theorem vns_ref {ns : List Nat} {a : Addr} {r : List V} (h : V.ref a :: r = vns ns) : False := by
  cases ns with
  | nil => cases h
  | cons n t =>
    unfold vns vn at h
    rw [List.map_cons] at h
    injection h with h1 _
    cases h1
theorem grid_keep {H : Hp} {p g0 r0 : Addr} {vs ws : List V} {o : HO} (h1 : H p = some (.lst (.ref g0 :: vs))) (h2 : H g0 = some (.lst (.ref r0 :: ws))) {v : V} {g : List (List Nat)} (h : GridT H v g) : GridT (upd H p o) v g := by
  obtain ⟨a, gvs, rfl, e, al⟩ := h
  have na : a ≠ p := fun z => by
    subst z
    rw [h1] at e
    have e := HO.lst.inj (Option.some.inj e)
    subst e
    cases al with
    | cons q _ =>
      obtain ⟨b, eb, hb⟩ := q
      cases eb
      rw [h2] at hb
      exact vns_ref (HO.lst.inj (Option.some.inj hb))
  refine ⟨a, gvs, rfl, by rw [upd_ne na]; exact e, al.mono fun v ns ⟨b, eb, hb⟩ => ⟨b, eb, ?_⟩⟩
  have nb : b ≠ p := fun z => by
    subst z
    rw [h1] at hb
    exact vns_ref (HO.lst.inj (Option.some.inj hb))
  rw [upd_ne nb]
  exact hb
/-- the first grid's own first row -/
theorem grid_first {H : Hp} {v : V} {once : Bool} {lo hi : Nat} {l : List Sq52.Item} {size : Nat} (h : GridT H v (gridOf once lo hi l size)) : ∃ g0 r0 ws, v = .ref g0 ∧ H g0 = some (.lst (.ref r0 :: ws)) := by
  obtain ⟨a, gvs, rfl, e, al⟩ := h
  obtain ⟨v, gv, r0, rfl, _⟩ := al.get (grid_get (Nat.zero_le size))
  cases gvs with
  | nil => cases gv
  | cons x ws =>
    have := Option.some.inj gv
    subst this
    exact ⟨a, r0, ws, rfl, e⟩
theorem grids_keep {H : Hp} {p : Addr} {vs : List V} {o : HO} {gs : List (List (List Nat))} {once : Bool} {lo hi : Nat} {l : List Sq52.Item} {size : Nat} (hp : H p = some (.lst vs)) (al : All2 (GridT H) vs gs) (h0 : gs[0]? = some (gridOf once lo hi l size)) {v : V} {g : List (List Nat)} (h : GridT H v g) : GridT (upd H p o) v g := by
  obtain ⟨v0, gv, hg⟩ := al.get h0
  obtain ⟨g0, r0, ws, rfl, e⟩ := grid_first hg
  cases vs with
  | nil => cases gv
  | cons x vs =>
    have := Option.some.inj gv
    subst this
    exact grid_keep hp e h
theorem atI_end {vs : List V} {v : V} (h : vs[vs.length - 1]? = some v) : atI vs (-1) = some v := by
  have hv : vs ≠ [] := fun z => by
    subst z
    cases h
  have e := List.dropLast_concat_getLast hv
  have hl : vs.getLast hv = v := by
    have h2 := List.getLast?_eq_getElem? (l := vs)
    rw [h, List.getLast?_eq_getLast hv] at h2
    exact Option.some.inj h2
  rw [hl] at e
  rw [← e]
  exact atI_last _ _
abbrev sEach : Stmt := topS 22
theorem scEach : FnScope ["row", "repeats", "size", "lo", "hi", "ways", "thing"] ["row", "repeats", "size", "lo", "hi"] (defScope sEach) := ⟨rfl, rfl, rfl, by decide +kernel, rfl, by decide +kernel, by decide +kernel⟩
def spEach : Sp := fun vs H Q _ => ∃ (r : V) (row : List Sq52.Item) (once : Bool) (size lo hi : Nat), vs = [r, vn (hop once), vn size, vn lo, vn hi] ∧ RowT H r row ∧ Pos row ∧ row.length ≤ 60 ∧ size ≤ 60 ∧
  ∀ H' v, Same H H' → TabT H' v (tabOf once lo hi row size) → Q v H'
/-- the grids from the last on -/
def upTo (once : Bool) (lo hi : Nat) (row : List Sq52.Item) (size i : Nat) : List (List (List Nat)) := (List.range i).map fun j => gridOf once lo hi (row.drop (row.length - j)) size
theorem upTo_rev (once : Bool) (lo hi : Nat) (row : List Sq52.Item) (size : Nat) : (upTo once lo hi row size (row.length + 1)).reverse = tabOf once lo hi row size := by
  apply List.ext_getElem
  · simp [upTo, tabOf]
  · intro i h1 h2
    have h3 : i < row.length + 1 := by simpa [tabOf] using h2
    simp only [upTo, tabOf, List.getElem_reverse, List.getElem_map, List.getElem_range, List.length_map, List.length_range]
    rw [show row.length - (row.length + 1 - 1 - i) = i by omega]
section
variable {P : Program} {w : World} {K : PySem.W.Frag} {mg : Str → Option Value} {base : Heap}
theorem ok_each {f fB fW : Addr} {fd fdB fdW : FuncData} {k : Nat} (F : Fun K "ways_from_each" "ways_from_each" sEach f fd) (mrv : mg "reversed" = none)
    (GB : FnOk P w K mg base CX0 (k + 1) fB fdB ["size", "lo", "hi"] spBehind) (gB : mg "ways_behind_all" = some (.ref fB)) (kB : PySem.W.keepIn K (.ref fB) = true) (bB : Binds K fdB ["size", "lo", "hi"] [])
    (GW : FnOk P w K mg base CX0 (k + 1) fW fdW ["later", "weight", "repeats"] spWith) (gW : mg "ways_with_thing" = some (.ref fW)) (kW : PySem.W.keepIn K (.ref fW) = true) (bW : Binds K fdW ["later", "weight", "repeats"] []) :
    FnOk P w K mg base CX0 (k + 2) f fd ["row", "repeats", "size", "lo", "hi"] spEach := by
  refine F.ok scEach (fun vs H Q E h => ?_) (fun cdv A outer s H vs Q E hr h => ?_)
  · obtain ⟨r, row, once, size, lo, hi, rfl, _⟩ := h
    rfl
  · obtain ⟨r, row, once, size, lo, hi, rfl, hR, hpos, hrl, hz, q⟩ := h
    obtain ⟨ra, rvs, rfl, er, ar⟩ := hR
    have hrv := ar.len
    refine ⟨_, pss_cons (ps_set (i := 5) scEach.nd rfl (.inl rfl) (pe_lst (pa_cons (pe_call GB hr (by rfl) gB kB bB .nil pass0 (pa_cons (pv 2) (pa_cons (pv 3) (pa_cons (pv 4) pa_nil)))) pa_nil)))
      (pss_cons (ps_for PassesOwn.never rfl (pi_reversed (by rfl) mrv (pa_cons (pv 0) pa_nil)) (pg_name (i := 6) scEach.nd rfl (.inl rfl))
        (pss_one (ps_expr (pe_bm PySem.F.plainAttrs_list PySem.F.slot_list_append PySem.F.type_list_append mt_append (pv 5) (pa_cons
          (pe_call GW hr (by rfl) gW kW bW .nil pass0 (pa_cons (pe_ix (ixl (K := K)) (pv 5) (pe_un un_neg pe_int) (fun _ _ => rfl)) (pa_cons (pe_ix (ixt (K := K)) (pv 6) pe_int (fun _ _ => rfl)) (pa_cons (pv 1) pa_nil)))) pa_nil)))))
      (pss_cons (ps_expr (pe_bm0 PySem.F.plainAttrs_list PySem.F.slot_list_reverse PySem.F.type_list_reverse mt_reverse (pv 5)))
      (pss_one (ps_ret (pv 5))))), ?_⟩
    refine ⟨_, rfl, _, rfl, _, rfl, size, lo, hi, rfl, hz, fun H1 v s1 hg => ⟨(by show 1 ≤ sizeLine; decide), fun p np => ?_⟩⟩
    have sp : Same H1 (upd H1 p (.lst [v])) := same_upd np
    have np0 : H p = none := s1.free np
    refine ⟨_, rfl, ra, rvs, rfl, SqL.of (sp _ _ (s1 _ _ er)), for_it (walk_rev (xs := rvs)) (fun i σ H' => ∃ vs x6, σ = [some (.ref ra), some (vn (hop once)), some (vn size), some (vn lo), some (vn hi), some (.ref p), x6] ∧ Same H H' ∧ H' p = some (.lst vs) ∧ All2 (GridT H') vs (upTo once lo hi row size (i + 1)))
      ⟨[v], none, rfl, s1.trans sp, upd_same, .cons ?_ .nil⟩ (fun i σ H' _ ⟨_, _, _, s2, _⟩ => SqL.of (s2 _ _ er)) ?_ ?_⟩
    · have := (hg once).same sp
      dsimp only
      rw [show row.drop (row.length - 0) = [] by simp]
      exact this
    · rintro i x σ H2 H3 hi' ⟨vs, x6, rfl, s2, e2, al⟩ ⟨rfl, ev⟩
      have hl := al.len
      unfold upTo at hl
      rw [List.length_map, List.length_range] at hl
      obtain ⟨x, ex, xa, rfl, hx⟩ := ar.get' ev
      have hx2 := s2 _ _ hx
      obtain ⟨lv, glv, hlg⟩ := al.get (i := i) (x := gridOf once lo hi (row.drop (row.length - i)) size) (by
        unfold upTo
        rw [List.getElem?_map, List.getElem?_range (by omega)]
        rfl)
      have hidx : row.length - 1 - i < row.length := by omega
      rw [hrv] at ex
      obtain ⟨_, ex'⟩ := List.getElem?_eq_some_iff.mp ex
      have hdrop : row.drop (row.length - (i + 1)) = x :: row.drop (row.length - i) := by
        have := List.drop_eq_getElem_cons hidx
        rw [ex'] at this
        rw [show row.length - (i + 1) = row.length - 1 - i by omega, this, show row.length - 1 - i + 1 = row.length - i by omega]
      have hp' : Pos (x :: row.drop (row.length - i)) := by
        rw [← hdrop]
        exact hpos.drop _
      refine ⟨_, rfl, .inl ⟨rfl, _, SqL.of e2⟩, _, rfl, 1, rfl, p, _, _, _, rfl, rfl, SqL.of e2, atI_end (by rw [hl]; exact glv), _, rfl, xa, _, _, _, rfl, rfl, SqT.of hx2, at_of (j := 0) rfl rfl, _, rfl, lv, once, lo, hi, size, x, row.drop (row.length - i), rfl, hz, hp', hlg, fun H4 v4 s4 hg4 => ?_⟩
      have h0 : (upTo once lo hi row size (i + 1))[0]? = some (gridOf once lo hi (row.drop (row.length - 0)) size) := by
        unfold upTo
        rw [List.getElem?_map, List.getElem?_range (by omega)]
        rfl
      have al4 := al.mono fun _ _ q => q.same s4
      have e4 := s4 _ _ e2
      refine ⟨p, _, _, rfl, rfl, e4, line' (by omega), ?_⟩
      refine ⟨vs ++ [v4], _, rfl, same_put (s2.trans s4) np0, upd_same, ?_⟩
      have keep : ∀ v g, GridT H4 v g → GridT (upd H4 p (.lst (vs ++ [v4]))) v g := fun v g q => grids_keep e4 al4 h0 q
      unfold upTo
      rw [List.range_succ, List.map_append]
      refine (al4.mono keep).snoc (keep _ _ ?_)
      dsimp only
      rw [hdrop]
      exact hg4
    · rintro σ H2 ⟨vs, x6, rfl, s2, e2, al⟩
      have h0 : (upTo once lo hi row size (rvs.length + 1))[0]? = some (gridOf once lo hi (row.drop (row.length - 0)) size) := by
        unfold upTo
        rw [List.getElem?_map, List.getElem?_range (by omega)]
        rfl
      refine ⟨_, rfl, .inl ⟨rfl, _, SqL.of e2⟩, p, _, rfl, rfl, e2, ?_⟩
      refine ⟨_, rfl, q _ _ (same_put s2 np0) ⟨p, vs.reverse, rfl, upd_same, ?_⟩⟩
      have al2 := (al.mono fun v g q => grids_keep (o := .lst vs.reverse) e2 al h0 q).reverse
      rw [hrv, upTo_rev] at al2
      exact al2
end
end Ps

set_option Elab.async false
set_option linter.all false
set_option maxRecDepth 100000
set_option maxHeartbeats 4000000
namespace Ps
open PySem PySem.Spec PyProof.Rows L2
/-! ### the object -/
def sf (r : V) (once : Bool) (size : Nat) (w : V) : List (Str × V) := [("row", r), ("repeats", vn (hop once)), ("size", vn size), ("ways", w)]
theorem lk_here {k : Str} {v : V} {r : List (Str × V)} : List.lookup k ((k, v) :: r) = some v := by
  have e : (k == k) = true := beq_self_eq_true k
  simp only [List.lookup, e]
theorem lk_past {k g : Str} {v : V} {r : List (Str × V)} (h : (k == g) = false) : List.lookup k ((g, v) :: r) = List.lookup k r := by
  simp only [List.lookup, h]
theorem put_here {f : Str} {v x : V} {r : List (Str × V)} : putF f v ((f, x) :: r) = (f, v) :: r := if_pos rfl
theorem put_past {f g : Str} {v x : V} {r : List (Str × V)} (h : ¬ g = f) : putF f v ((g, x) :: r) = (g, x) :: putF f v r := if_neg h
theorem sf_row (r : V) (once : Bool) (size : Nat) (w : V) : (sf r once size w).lookup ("row" : Str) = some r := lk_here
theorem sf_rep (r : V) (once : Bool) (size : Nat) (w : V) : (sf r once size w).lookup ("repeats" : Str) = some (vn (hop once)) := (lk_past (by decide +kernel)).trans lk_here
theorem sf_size (r : V) (once : Bool) (size : Nat) (w : V) : (sf r once size w).lookup ("size" : Str) = some (vn size) := (lk_past (by decide +kernel)).trans ((lk_past (by decide +kernel)).trans lk_here)
theorem sf_ways (r : V) (once : Bool) (size : Nat) (w : V) : (sf r once size w).lookup ("ways" : Str) = some w := (lk_past (by decide +kernel)).trans ((lk_past (by decide +kernel)).trans ((lk_past (by decide +kernel)).trans lk_here))
theorem sf_no (r : V) (once : Bool) (size : Nat) (w : V) {m : Str} (h1 : (m == ("row" : Str)) = false) (h2 : (m == ("repeats" : Str)) = false) (h3 : (m == ("size" : Str)) = false) (h4 : (m == ("ways" : Str)) = false) : (sf r once size w).lookup m = none :=
  (lk_past h1).trans ((lk_past h2).trans ((lk_past h3).trans ((lk_past h4).trans rfl)))
theorem put1 (r : V) : putF "row" r [] = [(("row" : Str), r)] := rfl
theorem put2 (r x : V) : putF "repeats" x [(("row" : Str), r)] = [(("row" : Str), r), (("repeats" : Str), x)] := (put_past (by decide +kernel)).trans rfl
theorem put3 (r x y : V) : putF "size" y [(("row" : Str), r), (("repeats" : Str), x)] = [(("row" : Str), r), (("repeats" : Str), x), (("size" : Str), y)] := (put_past (by decide +kernel)).trans (congrArg _ ((put_past (by decide +kernel)).trans rfl))
theorem put4 (r x y z : V) : putF "ways" z [(("row" : Str), r), (("repeats" : Str), x), (("size" : Str), y)] = [(("row" : Str), r), (("repeats" : Str), x), (("size" : Str), y), (("ways" : Str), z)] := (put_past (by decide +kernel)).trans (congrArg _ ((put_past (by decide +kernel)).trans (congrArg _ ((put_past (by decide +kernel)).trans rfl))))
structure SetsT (C : Addr) (H : Hp) (v : V) (row : List Sq52.Item) (once : Bool) (size lo hi : Nat) : Prop where
  ex : ∃ a dx r w, v = .ref a ∧ H a = some (.ins C dx (sf r once size w)) ∧ RowT H r row ∧ TabT H w (tabOf once lo hi row size)
theorem SetsT.same {C : Addr} {H H' : Hp} {v : V} {row : List Sq52.Item} {once : Bool} {size lo hi : Nat} (h : SetsT C H v row once size lo hi) (s : Same H H') : SetsT C H' v row once size lo hi := by
  obtain ⟨a, dx, r, w, rfl, e, hr, ht⟩ := h.ex
  exact ⟨a, dx, r, w, rfl, s _ _ e, RowT.same s hr, TabT.same s ht⟩
theorem pair_ins {H : Hp} {p : Addr} {C dx : Addr} {fs : List (Str × V)} {o : HO} (hp : H p = some (.ins C dx fs)) {v : V} {x : Sq52.Item} (h : PairT H v x) : PairT (upd H p o) v x := by
  obtain ⟨a, rfl, e⟩ := h
  exact ⟨a, rfl, by rw [upd_ne (ne_of e hp (by intro z; cases z))]; exact e⟩
theorem nats_ins {H : Hp} {p : Addr} {C dx : Addr} {fs : List (Str × V)} {o : HO} (hp : H p = some (.ins C dx fs)) {v : V} {x : List Nat} (h : NatsT H v x) : NatsT (upd H p o) v x := by
  obtain ⟨a, rfl, e⟩ := h
  exact ⟨a, rfl, by rw [upd_ne (ne_of e hp (by intro z; cases z))]; exact e⟩
theorem lof_ins {α : Type} {R : Hp → V → α → Prop} {H : Hp} {p : Addr} {C dx : Addr} {fs : List (Str × V)} {o : HO} (hp : H p = some (.ins C dx fs)) (hR : ∀ v x, R H v x → R (upd H p o) v x) {v : V} {xs : List α} (h : LOf R H v xs) : LOf R (upd H p o) v xs := by
  obtain ⟨a, vs, rfl, e, al⟩ := h
  exact ⟨a, vs, rfl, by rw [upd_ne (ne_of e hp (by intro z; cases z))]; exact e, al.mono hR⟩
theorem row_ins {H : Hp} {p : Addr} {C dx : Addr} {fs : List (Str × V)} {o : HO} (hp : H p = some (.ins C dx fs)) {v : V} {xs : List Sq52.Item} (h : RowT H v xs) : RowT (upd H p o) v xs := lof_ins hp (fun _ _ q => pair_ins hp q) h
theorem tab_ins {H : Hp} {p : Addr} {C dx : Addr} {fs : List (Str × V)} {o : HO} (hp : H p = some (.ins C dx fs)) {v : V} {xs : List (List (List Nat))} (h : TabT H v xs) : TabT (upd H p o) v xs := lof_ins hp (fun _ _ q => lof_ins hp (fun _ _ q => nats_ins hp q) q) h
structure TxtS (K : PySem.W.Frag) (mg : Str → Option Value) (C : Addr) : Prop where
  cl : Cls K C
  nR : NoAttr K C "row"
  nP : NoAttr K C "repeats"
  nS : NoAttr K C "size"
  nW : NoAttr K C "ways"
  mgC : mg "SizedSets" = some (.ref C)
abbrev sInit : Stmt := inClass (topS 23) 0
abbrev sHow : Stmt := inClass (topS 23) 1
abbrev sTake : Stmt := inClass (topS 23) 2
abbrev sAt : Stmt := inClass (topS 23) 3
abbrev sNum : Stmt := inClass (topS 23) 4
theorem scInit : FnScope ["self", "row", "repeats", "size", "lo", "hi"] ["self", "row", "repeats", "size", "lo", "hi"] (defScope sInit) := ⟨rfl, rfl, rfl, by decide +kernel, rfl, by decide +kernel, by decide +kernel⟩
theorem scHow : FnScope ["self"] ["self"] (defScope sHow) := ⟨rfl, rfl, rfl, by decide +kernel, rfl, by decide +kernel, by decide +kernel⟩
theorem scTake : FnScope ["self", "place", "left", "used", "weight"] ["self", "place", "left", "used"] (defScope sTake) := ⟨rfl, rfl, rfl, by decide +kernel, rfl, by decide +kernel, by decide +kernel⟩
def spInit (C : Addr) : Sp := fun vs H Q _ => ∃ (p dx : Addr) (r : V) (row : List Sq52.Item) (once : Bool) (size lo hi : Nat), vs = [.ref p, r, vn (hop once), vn size, vn lo, vn hi] ∧ H p = some (.ins C dx []) ∧ RowT H r row ∧ Pos row ∧ row.length ≤ 60 ∧ size ≤ 60 ∧
  ∀ H', SetsT C H' (.ref p) row once size lo hi → (∀ b o, H b = some o → b ≠ p → H' b = some o) → Q .non H'
def spHow (C : Addr) : Sp := fun vs H Q _ => ∃ (v : V) (row : List Sq52.Item) (once : Bool) (size lo hi : Nat), vs = [v] ∧ SetsT C H v row once size lo hi ∧ Q (vn (W once lo hi row size 0)) H
def spTake (C : Addr) : Sp := fun vs H Q _ => ∃ (v : V) (row : List Sq52.Item) (once : Bool) (size lo hi place left used : Nat), vs = [v, vn place, vn left, vn used] ∧ SetsT C H v row once size lo hi ∧ Pos row ∧ place < row.length ∧ left + used ≤ size ∧ Q (vn (tkAt once lo hi row place left used)) H
theorem tab_get {once : Bool} {lo hi : Nat} {row : List Sq52.Item} {size i : Nat} (h : i ≤ row.length) : (tabOf once lo hi row size)[i]? = some (gridOf once lo hi (row.drop i) size) := by
  unfold tabOf
  rw [List.getElem?_map, List.getElem?_range (by omega)]
  rfl
theorem hop_le (once : Bool) : hop once ≤ 1 := by
  cases once <;> decide
section
variable {P : Program} {w : World} {K : PySem.W.Frag} {mg : Str → Option Value} {base : Heap}
theorem ok_init {f fE C : Addr} {fd fdE : FuncData} {k : Nat} (F : Fun K "__init__" "SizedSets.__init__" sInit f fd) (T : TxtS K mg C)
    (GE : FnOk P w K mg base CX0 (k + 2) fE fdE ["row", "repeats", "size", "lo", "hi"] spEach) (gE : mg "ways_from_each" = some (.ref fE)) (kE : PySem.W.keepIn K (.ref fE) = true) (bE : Binds K fdE ["row", "repeats", "size", "lo", "hi"] []) :
    FnOk P w K mg base CX0 (k + 3) f fd ["self", "row", "repeats", "size", "lo", "hi"] (spInit C) := by
  refine F.ok scInit (fun vs H Q E h => ?_) (fun cdv A outer s H vs Q E hr h => ?_)
  · obtain ⟨p, dx, r, row, once, size, lo, hi, rfl, _⟩ := h
    rfl
  · obtain ⟨p, dx, r, row, once, size, lo, hi, rfl, hp, hR, hpos, hrl, hz, q⟩ := h
    refine ⟨_, pss_cons (ps_fld (pv 0) (pv 1) rfl) (pss_cons (ps_fld (pv 0) (pv 2) rfl) (pss_cons (ps_fld (pv 0) (pv 3) rfl)
      (pss_one (ps_fld (pv 0) (pe_call GE hr (by rfl) gE kE bE .nil pass0 (pa_cons (pv 1) (pa_cons (pv 2) (pa_cons (pv 3) (pa_cons (pv 4) (pa_cons (pv 5) pa_nil)))))) rfl)))), ?_⟩
    refine ⟨_, rfl, _, rfl, p, C, dx, _, rfl, hp, T.cl, T.nR, (by show 0 < 1000; decide), ?_⟩
    refine ⟨_, rfl, _, rfl, p, C, dx, _, rfl, upd_same, T.cl, T.nP, (by show 1 < 1000; decide), ?_⟩
    refine ⟨_, rfl, _, rfl, p, C, dx, _, rfl, upd_same, T.cl, T.nS, (by rw [put1, put2]; show 2 < 1000; decide), ?_⟩
    have r3 : RowT _ r row := row_ins (o := .ins C dx (putF "size" (vn size) (putF "repeats" (vn (hop once)) (putF "row" r [])))) upd_same (row_ins (o := .ins C dx (putF "repeats" (vn (hop once)) (putF "row" r []))) upd_same (row_ins (o := .ins C dx (putF "row" r [])) hp hR))
    refine ⟨_, rfl, _, rfl, _, rfl, _, rfl, _, rfl, r, row, once, size, lo, hi, rfl, r3, hpos, hrl, hz, fun H4 v s4 ht => ?_⟩
    have e4 := s4 _ _ upd_same
    refine ⟨_, rfl, p, C, dx, _, rfl, e4, T.cl, T.nW, (by rw [put1, put2, put3]; show 3 < 1000; decide), ?_⟩
    refine q _ ⟨p, dx, r, v, rfl, ?_, row_ins e4 (RowT.same s4 r3), tab_ins e4 ht⟩ fun b o e hb => ?_
    · rw [upd_same, put1, put2, put3, put4]
      rfl
    · rw [upd_ne hb]
      refine s4 _ _ ?_
      rw [upd_ne hb, upd_ne hb, upd_ne hb]
      exact e
theorem ok_how {f C : Addr} {fd : FuncData} {k : Nat} (F : Fun K "how_many" "SizedSets.how_many" sHow f fd) (T : TxtS K mg C) : FnOk P w K mg base CX0 (k + 1) f fd ["self"] (spHow C) := by
  refine F.ok scHow (fun vs H Q E h => ?_) (fun cdv A outer s H vs Q E hr h => ?_)
  · obtain ⟨v, row, once, size, lo, hi, rfl, _⟩ := h
    rfl
  · obtain ⟨v, row, once, size, lo, hi, rfl, hS, q⟩ := h
    obtain ⟨a, dx, r, w, rfl, ea, hR, wa, wvs, rfl, ew, aw⟩ := hS.ex
    refine ⟨_, pss_one (ps_ret (pe_ix (ixl (K := K)) (pe_ix (ixl (K := K)) (pe_ix (ixl (K := K)) (pe_fld (pv 0) rfl) pe_int (fun _ _ => rfl)) (pe_fld (pv 0) rfl) (fun _ _ => rfl)) pe_int (fun _ _ => rfl))), ?_⟩
    obtain ⟨g, gg, ga, gvs, rfl, eg, ag⟩ := aw.get (tab_get (once := once) (lo := lo) (hi := hi) (size := size) (Nat.zero_le row.length))
    obtain ⟨n, gn, na, rfl, en⟩ := ag.get (grid_get (Nat.le_refl size))
    refine ⟨_, rfl, a, C, dx, _, _, rfl, ea, T.cl, T.nW, sf_ways _ _ _ _, wa, _, _, _, rfl, rfl, SqL.of ew, at_of (j := 0) rfl gg, _, rfl, a, C, dx, _, _, rfl, ea, T.cl, T.nS, sf_size _ _ _ _, ga, _, _, _, rfl, rfl, SqL.of eg, at_of (j := size) rfl gn, na, _, _, _, rfl, rfl, SqL.of en, at_of (j := 0) rfl (vns_get (gRow_get (by omega))), q⟩
theorem ok_take {f C : Addr} {fd : FuncData} {k : Nat} (F : Fun K "how_many_take" "SizedSets.how_many_take" sTake f fd) (T : TxtS K mg C) : FnOk P w K mg base CX0 (k + 1) f fd ["self", "place", "left", "used"] (spTake C) := by
  refine F.ok scTake (fun vs H Q E h => ?_) (fun cdv A outer s H vs Q E hr h => ?_)
  · obtain ⟨v, row, once, size, lo, hi, place, left, used, rfl, _⟩ := h
    rfl
  · obtain ⟨v, row, once, size, lo, hi, place, left, used, rfl, hS, hpos, hpl, hlu, q⟩ := h
    obtain ⟨a, dx, r, w, rfl, ea, hR, wa, wvs, rfl, ew, aw⟩ := hS.ex
    obtain ⟨ra, rvs, rfl, er, ar⟩ := hR
    refine ⟨_, pss_cons (ps_set (i := 4) scTake.nd rfl (.inl rfl) (pe_ix (ixt (K := K)) (pe_ix (ixl (K := K)) (pe_fld (pv 0) rfl) (pv 1) (fun _ _ => rfl)) pe_int (fun _ _ => rfl)))
      (pss_cons (ps_if (pt_cmpR op_lt (pv 2) (pv 4) (nomark _)) (pss_one (ps_ret pe_int)) pss_nil)
      (pss_one (ps_ret (pe_ix (ixl (K := K)) (pe_ix (ixl (K := K)) (pe_ix (ixl (K := K)) (pe_fld (pv 0) rfl) (pe_op op_add (pv 1) (pe_fld (pv 0) rfl)) (fun _ _ => rfl)) (pe_op op_sub (pv 2) (pv 4)) (fun _ _ => rfl)) (pe_op op_add (pv 3) pe_int) (fun _ _ => rfl))))), ?_⟩
    have ex : row[place]? = some row[place] := List.getElem?_eq_getElem hpl
    obtain ⟨xv, gx, xa, rfl, hx⟩ := ar.get ex
    have hx1 := hpos _ (List.getElem_mem hpl)
    refine ⟨_, rfl, a, C, dx, _, _, rfl, ea, T.cl, T.nR, sf_row _ _ _ _, _, rfl, ra, _, _, _, rfl, rfl, SqL.of er, at_of (j := place) rfl gx, xa, _, _, _, rfl, rfl, SqT.of hx, at_of (j := 0) rfl rfl, ?_⟩
    refine ⟨_, rfl, _, rfl, _, _, rfl, rfl, _, rfl, ?_⟩
    have etk : tkAt once lo hi row place left used = if row[place].1 ≤ left then W once lo hi (row.drop (place + hop once)) (left - row[place].1) (used + 1) else 0 := by
      unfold tkAt
      rw [ex]
    by_cases c : left < row[place].1
    · refine itT (decide_eq_true (by omega)) ?_
      rw [etk, if_neg (by omega)] at q
      exact q
    · refine itF (decide_eq_false (by omega)) ?_
      rw [etk, if_pos (by omega)] at q
      have hh := hop_le once
      obtain ⟨g, gg, ga, gvs, rfl, eg, ag⟩ := aw.get (tab_get (once := once) (lo := lo) (hi := hi) (size := size) (show place + hop once ≤ row.length by omega))
      obtain ⟨n, gn, na, rfl, en⟩ := ag.get (grid_get (show left - row[place].1 ≤ size by omega))
      refine ⟨_, rfl, a, C, dx, _, _, rfl, ea, T.cl, T.nW, sf_ways _ _ _ _, _, rfl, _, rfl, a, C, dx, _, _, rfl, ea, T.cl, T.nP, sf_rep _ _ _ _, _, _, rfl, rfl, wa, _, _, _, rfl, rfl, SqL.of ew, at_of (j := place + hop once) (by omega) gg, _, rfl, _, rfl, _, _, rfl, rfl, ga, _, _, _, rfl, rfl, SqL.of eg, at_of (j := left - row[place].1) (by omega) gn, _, rfl, _, _, rfl, rfl, na, _, _, _, rfl, rfl, SqL.of en, at_of (j := used + 1) (by omega) (vns_get (gRow_get (by omega))), q⟩
end
end Ps

set_option Elab.async false
set_option linter.all false
set_option maxRecDepth 100000
set_option maxHeartbeats 4000000
namespace Ps
open PySem PySem.Spec PyProof.Rows L2
theorem pick_inv {once : Bool} {lo hi : Nat} {l : List Sq52.Item} {n u k : Nat} {s : List Sq52.Item} (h : Pick once lo hi l n u k s) (hn : 0 < n) :
    ∃ x r, l = x :: r ∧ ((x.1 ≤ n ∧ k < tk once lo hi x r n u ∧ ∃ t, s = x :: t ∧ Pick once lo hi (nx once x r) (n - x.1) (u + 1) k t) ∨ (tk once lo hi x r n u ≤ k ∧ Pick once lo hi r n u (k - tk once lo hi x r n u) s)) := by
  cases h with
  | done => omega
  | take _ h1 h2 h3 => exact ⟨_, _, rfl, .inl ⟨h1, h2, _, rfl, h3⟩⟩
  | skip _ h1 h2 => exact ⟨_, _, rfl, .inr ⟨h1, h2⟩⟩
theorem pick_zero {once : Bool} {lo hi : Nat} {l : List Sq52.Item} {u k : Nat} {s : List Sq52.Item} (h : Pick once lo hi l 0 u k s) : s = [] := by
  cases h with
  | done => rfl
  | take h => omega
  | skip h => omega
theorem drop_cons_inv {row : List Sq52.Item} {i : Nat} {x : Sq52.Item} {r : List Sq52.Item} (h : row.drop i = x :: r) : ∃ hi : i < row.length, row[i] = x ∧ r = row.drop (i + 1) := by
  have hi : i < row.length := by
    have := congrArg List.length h
    rw [List.length_drop, List.length_cons] at this
    omega
  rw [List.drop_eq_getElem_cons hi] at h
  injection h with h1 h2
  exact ⟨hi, h1, h2.symm⟩
theorem scAt : FnScope ["self", "k", "chosen", "ahead", "place", "left", "taking"] ["self", "k"] (defScope sAt) := ⟨rfl, rfl, rfl, by decide +kernel, rfl, by decide +kernel, by decide +kernel⟩
def spAt (C : Addr) : Sp := fun vs H Q _ => ∃ (v : V) (row : List Sq52.Item) (once : Bool) (size lo hi n : Nat) (s : List Sq52.Item), vs = [v, vn n] ∧ SetsT C H v row once size lo hi ∧ Pos row ∧ size ≤ 60 ∧ Pick once lo hi row size 0 n s ∧
  ∀ H' p vs, Same H H' → H p = none → H' p = some (.lst vs) → All2 (PairT H') vs s → Q (.ref p) H'
theorem scNum : FnScope ["self", "places", "ahead", "start", "left", "used", "place", "earlier"] ["self", "places"] (defScope sNum) := ⟨rfl, rfl, rfl, by decide +kernel, rfl, by decide +kernel, by decide +kernel⟩
def szP (row : List Sq52.Item) (ps : List Nat) : Nat := (ps.map fun p => (row.getD p (0, 0)).1).sum
def spNum (C : Addr) : Sp := fun vs H Q _ => ∃ (v pv_ : V) (row : List Sq52.Item) (once : Bool) (size lo hi : Nat) (ps : List Nat), vs = [v, pv_] ∧ SetsT C H v row once size lo hi ∧ Pos row ∧ row.length ≤ 60 ∧ size ≤ 60 ∧ NatsT H pv_ ps ∧ okP once row.length 0 ps ∧ szP row ps = size ∧
  ∀ H', Same H H' → Q (vn (rankP once lo hi row 0 size 0 ps)) H'
section
variable {P : Program} {w : World} {K : PySem.W.Frag} {mg : Str → Option Value} {base : Heap}
theorem ok_at {f fT C : Addr} {fd fdT : FuncData} {k : Nat} (F : Fun K "set_at" "SizedSets.set_at" sAt f fd) (T : TxtS K mg C) (ml : mg "len" = none)
    (GT : FnOk P w K mg base CX0 (k + 1) fT fdT ["self", "place", "left", "used"] (spTake C)) (mT : Meth K C "how_many_take" fT) (bT : Binds K fdT ["self", "place", "left", "used"] []) :
    FnOk P w K mg base CX0 (k + 2) f fd ["self", "k"] (spAt C) := by
  refine F.ok scAt (fun vs H Q E h => ?_) (fun cdv A outer s H vs Q E hr h => ?_)
  · obtain ⟨v, row, once, size, lo, hi, n, s, rfl, _⟩ := h
    rfl
  · obtain ⟨v, row, once, size, lo, hi, n, s, rfl, hS, hpos, hz, hP, q⟩ := h
    obtain ⟨a, dx, r, w, rfl, ea, hR, hT⟩ := hS.ex
    obtain ⟨ra, rvs, rfl, er, ar⟩ := hR
    refine ⟨_, pss_cons (ps_set (i := 2) scAt.nd rfl (.inl rfl) (pe_lst pa_nil)) (pss_cons (ps_set (i := 3) scAt.nd rfl (.inl rfl) (pv 1)) (pss_cons (ps_set (i := 4) scAt.nd rfl (.inl rfl) pe_int) (pss_cons (ps_set (i := 5) scAt.nd rfl (.inl rfl) (pe_fld (pv 0) rfl))
      (pss_cons (ps_while PassesOwn.never (pt_cmpR op_gt (pv 5) pe_int (nomark _))
        (pss_cons (ps_set (i := 6) scAt.nd rfl (.inl rfl) (pe_meth (pv 0) T.cl mT GT hr bT .nil pass0 (pa_cons (pv 4) (pa_cons (pv 5) (pa_cons (pe_callB call_len_seq (by rfl) ml PySem.boot_len (pa_cons (pv 2) pa_nil)) pa_nil)))))
        (pss_one (ps_if (pt_cmpR op_lt (pv 3) (pv 6) (nomark _))
          (pss_cons (ps_expr (pe_bm PySem.F.plainAttrs_list PySem.F.slot_list_append PySem.F.type_list_append mt_append (pv 2) (pa_cons (pe_ix (ixl (K := K)) (pe_fld (pv 0) rfl) (pv 4) (fun _ _ => rfl)) pa_nil)))
          (pss_cons (ps_aug (i := 5) scAt.nd rfl (.inl rfl) (pe_ix (ixt (K := K)) (pe_ix (ixl (K := K)) (pe_fld (pv 0) rfl) (pv 4) (fun _ _ => rfl)) pe_int (fun _ _ => rfl)) ip_sub)
          (pss_one (ps_aug (i := 4) scAt.nd rfl (.inl rfl) (pe_fld (pv 0) rfl) ip_add))))
          (pss_cons (ps_aug (i := 3) scAt.nd rfl (.inl rfl) (pv 6) ip_sub)
          (pss_one (ps_aug (i := 4) scAt.nd rfl (.inl rfl) pe_int ip_add)))))))
      (pss_one (ps_ret (pv 2))))))), ?_⟩
    refine ⟨Nat.zero_le _, fun p np => ?_⟩
    have s1 : Same H (upd H p (.lst [])) := same_upd np
    refine ⟨_, rfl, _, rfl, a, C, dx, _, _, rfl, s1 _ _ ea, T.cl, T.nS, sf_size _ _ _ _, ?_⟩
    refine ⟨fun m σ H' => ∃ (cs : List V) (c : List Sq52.Item) (place left ahead : Nat) (rest : List Sq52.Item) (x6 : Option V), σ = [some (.ref a), some (vn n), some (.ref p), some (vn ahead), some (vn place), some (vn left), x6] ∧ Same H H' ∧ H' p = some (.lst cs) ∧ All2 (PairT H) cs c ∧
        Pick once lo hi (row.drop place) left c.length ahead rest ∧ s = c ++ rest ∧ c.length + left ≤ size ∧ m = left + (row.length - place),
      ⟨_, [], [], 0, size, n, s, none, rfl, s1, upd_same, .nil, hP, rfl, by show 0 + size ≤ size; omega, rfl⟩, ?_⟩
    rintro m σ H2 ⟨cs, c, place, left, ahead, rest, x6, rfl, s2, e2, al, hp, es, hcl, rfl⟩
    refine ⟨_, rfl, _, _, rfl, rfl, _, rfl, ?_⟩
    by_cases c0 : 0 < left
    · refine itT (decide_eq_true (by omega)) ?_
      obtain ⟨x, r, hd, hw⟩ := pick_inv hp c0
      obtain ⟨hpl, hx, rfl⟩ := drop_cons_inv hd
      have hxe : row[place]? = some x := by rw [List.getElem?_eq_getElem hpl, hx]
      obtain ⟨xv, gx, xa, rfl, hxa⟩ := ar.get hxe
      have hx1 : 1 ≤ x.1 := hpos x (hx ▸ List.getElem_mem hpl)
      have hl := al.len
      have etk := tkAt_eq once lo hi (row := row) left c.length hpl
      rw [hx] at etk
      refine ⟨fun σ' H' => ∃ m', m' < left + (row.length - place) ∧ ∃ (cs : List V) (c : List Sq52.Item) (place left ahead : Nat) (rest : List Sq52.Item) (x6 : Option V), σ' = [some (.ref a), some (vn n), some (.ref p), some (vn ahead), some (vn place), some (vn left), x6] ∧ Same H H' ∧ H' p = some (.lst cs) ∧ All2 (PairT H) cs c ∧
        Pick once lo hi (row.drop place) left c.length ahead rest ∧ s = c ++ rest ∧ c.length + left ≤ size ∧ m' = left + (row.length - place), fun σ' H' h => h, ?_⟩
      have ea2 := s2 _ _ ea
      have er2 := s2 _ _ er
      refine ⟨_, rfl, a, dx, _, rfl, ea2, sf_no _ _ _ _ (by decide +kernel) (by decide +kernel) (by decide +kernel) (by decide +kernel), _, rfl, _, rfl, _, rfl, p, _, rfl, .inl (SqL.of e2), .ref a, row, once, size, lo, hi, place, left, c.length, ?_, hS.same s2, hpos, hpl, by omega, ?_⟩
      · rw [hl]
        rfl
      refine ⟨_, rfl, _, rfl, _, _, rfl, rfl, _, rfl, ?_⟩
      rcases hw with ⟨hxn, hk, t, rfl, hp2⟩ | ⟨hk, hp2⟩
      · refine itT (decide_eq_true (by omega)) ?_
        refine ⟨_, rfl, .inl ⟨rfl, _, SqL.of e2⟩, _, rfl, a, C, dx, _, _, rfl, ea2, T.cl, T.nR, sf_row _ _ _ _, _, rfl, ra, _, _, _, rfl, rfl, SqL.of er2, at_of (j := place) rfl gx, p, _, _, rfl, rfl, e2, line' (by omega), ?_⟩
        have s3 : Same H (upd H2 p (.lst (cs ++ [.ref xa]))) := same_put s2 np
        refine ⟨_, rfl, _, rfl, a, C, dx, _, _, rfl, s3 _ _ ea, T.cl, T.nR, sf_row _ _ _ _, _, rfl, ra, _, _, _, rfl, rfl, SqL.of (s3 _ _ er), at_of (j := place) rfl gx, xa, _, _, _, rfl, rfl, SqT.of (s3 _ _ hxa), at_of (j := 0) rfl rfl, _, _, rfl, rfl, ?_⟩
        refine ⟨_, rfl, _, rfl, a, C, dx, _, _, rfl, s3 _ _ ea, T.cl, T.nP, sf_rep _ _ _ _, _, _, rfl, rfl, ?_⟩
        have hh := hop_le once
        refine ⟨left - x.1 + (row.length - (place + hop once)), by omega, cs ++ [.ref xa], c ++ [x], place + hop once, left - x.1, ahead, t, some (vn (tkAt once lo hi row place left c.length)), ?_, s3, upd_same, al.snoc ⟨xa, rfl, hxa⟩, ?_, ?_, ?_, rfl⟩
        · have e1 : (left : Int) - (x.1 : Int) = ((left - x.1 : Nat) : Int) := by omega
          have e2 : (place : Int) + (hop once : Int) = ((place + hop once : Nat) : Int) := by omega
          show [some (V.ref a), some (vn n), some (V.ref p), some (vn ahead), some (V.int ((place : Int) + (hop once : Int))), some (V.int ((left : Int) - (x.1 : Int))), _] = _
          rw [e1, e2]
          rfl
        · rw [List.length_append, List.length_singleton]
          have en := nx_drop once hpl
          rw [hx] at en
          rw [← en]
          exact hp2
        · rw [es, List.append_assoc]
          rfl
        · rw [List.length_append, List.length_singleton]
          omega
      · refine itF (decide_eq_false (by omega)) ?_
        refine ⟨_, rfl, _, rfl, _, _, rfl, rfl, ?_⟩
        refine ⟨_, rfl, _, _, rfl, rfl, ?_⟩
        refine ⟨left + (row.length - (place + 1)), by omega, cs, c, place + 1, left, ahead - tk once lo hi x (row.drop (place + 1)) left c.length, rest, some (vn (tkAt once lo hi row place left c.length)), ?_, s2, e2, al, hp2, es, hcl, rfl⟩
        have e1 : (ahead : Int) - ((tkAt once lo hi row place left c.length : Nat) : Int) = ((ahead - tk once lo hi x (row.drop (place + 1)) left c.length : Nat) : Int) := by
          rw [etk]
          omega
        show [some (V.ref a), some (vn n), some (V.ref p), some (V.int ((ahead : Int) - ((tkAt once lo hi row place left c.length : Nat) : Int))), some (V.int ((place : Int) + 1)), some (vn left), _] = _
        rw [e1]
        rfl
    · have e0 : left = 0 := by omega
      subst e0
      have er0 := pick_zero hp
      subst er0
      rw [List.append_nil] at es
      subst es
      refine itF (decide_eq_false (by omega)) ?_
      exact ⟨_, rfl, q _ p cs s2 np e2 (al.mono fun _ _ q => q.same s2)⟩
theorem ok_num {f fT C : Addr} {fd fdT : FuncData} {k : Nat} (F : Fun K "number_of" "SizedSets.number_of" sNum f fd) (T : TxtS K mg C) (me : mg "enumerate" = none) (mr : mg "range" = none)
    (GT : FnOk P w K mg base CX0 (k + 1) fT fdT ["self", "place", "left", "used"] (spTake C)) (mT : Meth K C "how_many_take" fT) (bT : Binds K fdT ["self", "place", "left", "used"] []) :
    FnOk P w K mg base CX0 (k + 2) f fd ["self", "places"] (spNum C) := by
  refine F.ok scNum (fun vs H Q E h => ?_) (fun cdv A outer s H vs Q E hr h => ?_)
  · obtain ⟨v, pv_, row, once, size, lo, hi, ps, rfl, _⟩ := h
    rfl
  · obtain ⟨v, pv_, row, once, size, lo, hi, ps, rfl, hS, hpos, hrl, hz, hps, hok, hsz, q⟩ := h
    obtain ⟨a, dx, r, w, rfl, ea, hR, hT⟩ := hS.ex
    obtain ⟨ra, rvs, rfl, er, ar⟩ := hR
    obtain ⟨pa, rfl, ep⟩ := hps
    refine ⟨_, pss_cons (ps_set (i := 2) scNum.nd rfl (.inl rfl) pe_int) (pss_cons (ps_set (i := 3) scNum.nd rfl (.inl rfl) pe_int) (pss_cons (ps_set (i := 4) scNum.nd rfl (.inl rfl) (pe_fld (pv 0) rfl))
      (pss_cons (ps_for PassesOwn.never rfl (pi_enum (by rfl) me (pa_cons (pv 1) pa_nil))
          (pg_tup rfl (pgs_cons (pg_name (i := 5) scNum.nd rfl (.inl rfl)) (pgs_cons (pg_name (i := 6) scNum.nd rfl (.inl rfl)) pgs_nil)))
        (pss_cons (ps_for PassesOwn.never rfl (pi_range2 (by rfl) mr (pa_cons (pv 3) (pa_cons (pv 6) pa_nil))) (pg_name (i := 7) scNum.nd rfl (.inl rfl))
          (pss_one (ps_aug (i := 2) scNum.nd rfl (.inl rfl) (pe_meth (pv 0) T.cl mT GT hr bT .nil pass0 (pa_cons (pv 7) (pa_cons (pv 4) (pa_cons (pv 5) pa_nil)))) ip_add)))
        (pss_cons (ps_aug (i := 4) scNum.nd rfl (.inl rfl) (pe_ix (ixt (K := K)) (pe_ix (ixl (K := K)) (pe_fld (pv 0) rfl) (pv 6) (fun _ _ => rfl)) pe_int (fun _ _ => rfl)) ip_sub)
        (pss_one (ps_set (i := 3) scNum.nd rfl (.inl rfl) (pe_op op_add (pv 6) (pe_fld (pv 0) rfl)))))))
      (pss_one (ps_ret (pv 2)))))), ?_⟩
    refine ⟨_, rfl, a, C, dx, _, _, rfl, ea, T.cl, T.nS, sf_size _ _ _ _, ?_⟩
    refine ⟨_, rfl, pa, vns ps, rfl, SqL.of ep, for_it (walk_enum (xs := vns ps)) (fun i σ H' => ∃ (A start left : Nat) (x5 x6 x7 : Option V), σ = [some (.ref a), some (.ref pa), some (vn A), some (vn start), some (vn left), x5, x6, x7] ∧ Same H H' ∧
        A + rankP once lo hi row start left i (ps.drop i) = rankP once lo hi row 0 size 0 ps ∧ okP once row.length start (ps.drop i) ∧ start ≤ 60 ∧ left = szP row (ps.drop i) ∧ i + left ≤ size)
      ⟨0, 0, size, none, none, none, rfl, Same.refl _, by rw [List.drop_zero]; omega, by rw [List.drop_zero]; exact hok, by omega, by rw [List.drop_zero]; exact hsz.symm, by omega⟩ (fun i σ H' _ ⟨_, _, _, _, _, _, _, s2, _⟩ => SqL.of (s2 _ _ ep)) ?_ ?_⟩
    · rintro i x σ H2 H3 hi' ⟨A0, start, left, x5, x6, x7, rfl, s2, hA, hk, hst, hle, hil⟩ ⟨T0, v1, v2, rfl, nT, rfl, ev1, ev2⟩
      have e1 := (Option.some.inj ev1).symm
      subst e1
      obtain ⟨pl, epl, rfl⟩ := vns_of ev2
      obtain ⟨hpl', epl'⟩ := List.getElem?_eq_some_iff.mp epl
      have hdr : ps.drop i = pl :: ps.drop (i + 1) := by
        rw [List.drop_eq_getElem_cons hpl', epl']
      rw [hdr] at hA hk hle
      obtain ⟨k1, k2, k3⟩ := hk
      have exr : row[pl]? = some row[pl] := List.getElem?_eq_getElem k2
      have exd : row.getD pl (0, 0) = row[pl] := by rw [List.getD_eq_getElem?_getD, exr]; rfl
      have hx1 : 1 ≤ row[pl].1 := hpos _ (List.getElem_mem k2)
      have hle2 : left = row[pl].1 + szP row (ps.drop (i + 1)) := by
        rw [hle]
        show (row.getD pl (0, 0)).1 + szP row (ps.drop (i + 1)) = _
        rw [exd]
      obtain ⟨xv, gx, xa, rfl, hxa⟩ := ar.get exr
      have sT : Same H2 (upd H2 T0 (.tup [.int (i : Nat), .int (pl : Nat)])) := same_upd nT
      refine ⟨T0, _, rfl, SqT.of upd_same, rfl, _, _, rfl, _, _, rfl, rfl, ?_⟩
      refine ⟨_, rfl, _, rfl, _, _, rfl, ⟨by omega, by omega, by omega, by omega⟩, ?_⟩
      rw [show ((pl : Int) - (start : Int)).toNat = pl - start by omega]
      have sH := s2.trans sT
      refine for_it (walk_range (lo := (start : Int)) (n := pl - start)) (fun j σ H' => ∃ (x7 : Option V), σ = [some (.ref a), some (.ref pa), some (vn (A0 + tkSum once lo hi row left i start j)), some (vn start), some (vn left), some (vn i), some (vn pl), x7] ∧ Same H H')
        ⟨x7, rfl, sH⟩ (fun _ _ _ _ _ => trivial) ?_ ?_
      · rintro j x σ H4 H5 hj ⟨y7, rfl, s4⟩ ⟨rfl, rfl⟩
        refine ⟨_, rfl, _, rfl, a, dx, _, rfl, s4 _ _ ea, sf_no _ _ _ _ (by decide +kernel) (by decide +kernel) (by decide +kernel) (by decide +kernel), _, rfl, _, rfl, _, rfl, .ref a, row, once, size, lo, hi, start + j, left, i, rfl, hS.same s4, hpos, by omega, by omega, ?_⟩
        refine ⟨_, _, rfl, rfl, some (.int ((start : Int) + (j : Int))), ?_, s4⟩
        have e : ((A0 + tkSum once lo hi row left i start j : Nat) : Int) + ((tkAt once lo hi row (start + j) left i : Nat) : Int) = ((A0 + tkSum once lo hi row left i start (j + 1) : Nat) : Int) := by
          show _ = ((A0 + (tkSum once lo hi row left i start j + tkAt once lo hi row (start + j) left i) : Nat) : Int)
          omega
        show [some (V.ref a), some (V.ref pa), some (V.int (((A0 + tkSum once lo hi row left i start j : Nat) : Int) + ((tkAt once lo hi row (start + j) left i : Nat) : Int))), some (vn start), some (vn left), some (vn i), some (vn pl), some (V.int ((start : Int) + (j : Int)))] = _
        rw [e]
        rfl
      · rintro σ H4 ⟨y7, rfl, s4⟩
        refine ⟨_, rfl, _, rfl, a, C, dx, _, _, rfl, s4 _ _ ea, T.cl, T.nR, sf_row _ _ _ _, _, rfl, ra, _, _, _, rfl, rfl, SqL.of (s4 _ _ er), at_of (j := pl) rfl gx, xa, _, _, _, rfl, rfl, SqT.of (s4 _ _ hxa), at_of (j := 0) rfl rfl, _, _, rfl, rfl, ?_⟩
        refine ⟨_, rfl, _, rfl, a, C, dx, _, _, rfl, s4 _ _ ea, T.cl, T.nP, sf_rep _ _ _ _, _, _, rfl, rfl, ?_⟩
        have hh := hop_le once
        refine ⟨A0 + tkSum once lo hi row left i start (pl - start), pl + hop once, left - row[pl].1, some (vn i), some (vn pl), y7, ?_, s4, ?_, k3, by omega, by omega, by omega⟩
        · have e1 : (left : Int) - (row[pl].1 : Int) = ((left - row[pl].1 : Nat) : Int) := by omega
          show [some (V.ref a), some (V.ref pa), some (vn (A0 + tkSum once lo hi row left i start (pl - start))), some (V.int ((pl : Int) + (hop once : Int))), some (V.int ((left : Int) - (row[pl].1 : Int))), _, _, _] = _
          rw [e1]
          rfl
        · rw [← hA]
          show A0 + tkSum once lo hi row left i start (pl - start) + _ = A0 + (tkSum once lo hi row left i start (pl - start) + rankP once lo hi row (pl + hop once) (left - (row.getD pl (0, 0)).1) (i + 1) (ps.drop (i + 1)))
          rw [exd]
          omega
    · rintro σ H2 ⟨A0, start, left, x5, x6, x7, rfl, s2, hA, hk, hst, hle, hil⟩
      rw [vns_len, List.drop_length] at hA
      refine ⟨_, rfl, ?_⟩
      have : A0 = rankP once lo hi row 0 size 0 ps := by
        rw [← hA]
        rfl
      rw [this]
      exact q _ s2
end
end Ps

set_option Elab.async false
set_option linter.all false
set_option maxRecDepth 100000
set_option maxHeartbeats 4000000
namespace Ps
open PySem PySem.Spec PyProof.Rows L2
def ansOf (x : Sq52.House × Sq52.Out) : List Int := x.2.value :: x.2.out
def vis (zs : List Int) : List V := zs.map V.int
theorem vis_len (zs : List Int) : (vis zs).length = zs.length := List.length_map ..
theorem vis_app (a b : List Int) : vis (a ++ b) = vis a ++ vis b := List.map_append ..
theorem ansOf_says (h : Sq52.House) (z : Int) : ansOf (h, Sq52.says z) = [z] := rfl
/-! ### a set told -/
abbrev sTold : Stmt := topS 59
theorem scTold : FnScope ["things", "told", "thing"] ["things"] (defScope sTold) := ⟨rfl, rfl, rfl, by decide +kernel, rfl, by decide +kernel, by decide +kernel⟩
theorem told_eq (s : List Sq52.Item) : Sq52.told s = (s.length : Int) :: s.flatMap fun x => [(x.1 : Int), (x.2 : Int)] := by
  unfold Sq52.told Sq52.ints
  rw [List.map_cons]
  congr 1
  induction s with
  | nil => rfl
  | cons x t ih =>
    rw [List.flatMap_cons, List.map_append, ih, List.flatMap_cons]
    rfl
theorem told_len (s : List Sq52.Item) : (Sq52.told s).length = 1 + 2 * s.length := by
  rw [told_eq, List.length_cons]
  have : ∀ t : List Sq52.Item, (t.flatMap fun x => [(x.1 : Int), (x.2 : Int)]).length = 2 * t.length := by
    intro t
    induction t with
    | nil => rfl
    | cons x t ih =>
      rw [List.flatMap_cons, List.length_append, ih, List.length_cons]
      show 2 + 2 * t.length = 2 * (t.length + 1)
      omega
  rw [this]
  omega
def spTold : Sp := fun vs H Q _ => ∃ (a : Addr) (us : List V) (s : List Sq52.Item), vs = [.ref a] ∧ H a = some (.lst us) ∧ All2 (PairT H) us s ∧ s.length ≤ 60 ∧
  ∀ H' p, Same H H' → H p = none → H' p = some (.lst (vis (Sq52.told s))) → Q (.ref p) H'
section
variable {P : Program} {w : World} {K : PySem.W.Frag} {mg : Str → Option Value} {base : Heap}
theorem ok_told {f : Addr} {fd : FuncData} {k : Nat} (F : Fun K "set_told" "set_told" sTold f fd) (ml : mg "len" = none) : FnOk P w K mg base CX0 (k + 1) f fd ["things"] spTold := by
  refine F.ok scTold (fun vs H Q E h => ?_) (fun cdv A outer s H vs Q E hr h => ?_)
  · obtain ⟨a, us, s, rfl, _⟩ := h
    rfl
  · obtain ⟨a, us, s, rfl, ea, al, hl, q⟩ := h
    have hul := al.len
    refine ⟨_, pss_cons (ps_set (i := 1) scTold.nd rfl (.inl rfl) (pe_lst (pa_cons (pe_callB call_len_seq (by rfl) ml PySem.boot_len (pa_cons (pv 0) pa_nil)) pa_nil)))
      (pss_cons (ps_for PassesOwn.never rfl (pi_list (pv 0)) (pg_name (i := 2) scTold.nd rfl (.inl rfl))
        (pss_cons (ps_expr (pe_bm PySem.F.plainAttrs_list PySem.F.slot_list_append PySem.F.type_list_append mt_append (pv 1) (pa_cons (pe_ix (ixt (K := K)) (pv 2) pe_int (fun _ _ => rfl)) pa_nil)))
        (pss_one (ps_expr (pe_bm PySem.F.plainAttrs_list PySem.F.slot_list_append PySem.F.type_list_append mt_append (pv 1) (pa_cons (pe_ix (ixt (K := K)) (pv 2) pe_int (fun _ _ => rfl)) pa_nil))))))
      (pss_one (ps_ret (pv 1)))), ?_⟩
    refine ⟨_, rfl, a, _, rfl, .inl (SqL.of ea), (by show 1 ≤ sizeLine; decide), fun p np => ?_⟩
    have s1 : Same H (upd H p (.lst [.int (us.length : Int)])) := same_upd np
    refine ⟨_, rfl, a, rfl, ⟨_, SqL.of (s1 _ _ ea)⟩, for_it (walk_list (xs := us)) (fun i σ H' => ∃ x2, σ = [some (.ref a), some (.ref p), x2] ∧ Same H H' ∧ H' p = some (.lst (vis ((s.length : Int) :: (s.take i).flatMap fun x => [(x.1 : Int), (x.2 : Int)]))))
      ⟨none, rfl, s1, ?_⟩ (fun i σ H' _ ⟨_, _, s2, _⟩ => SqL.of (s2 _ _ ea)) ?_ ?_⟩
    · rw [upd_same, hul]
      rfl
    · rintro i x σ H2 H3 hi ⟨x2, rfl, s2, e2⟩ ⟨rfl, ev⟩
      obtain ⟨x, ex, xa, rfl, hx⟩ := al.get' ev
      have hlen : ((s.take i).flatMap fun x => [(x.1 : Int), (x.2 : Int)]).length ≤ 120 := by
        have := told_len (s.take i)
        rw [told_eq, List.length_cons, List.length_take] at this
        omega
      have hlv : (vis ((s.length : Int) :: (s.take i).flatMap fun x => [(x.1 : Int), (x.2 : Int)])).length ≤ 121 := by
        rw [vis_len, List.length_cons]
        omega
      refine ⟨_, rfl, .inl ⟨rfl, _, SqL.of e2⟩, _, rfl, xa, _, _, _, rfl, rfl, SqT.of (s2 _ _ hx), at_of (j := 0) rfl rfl, p, _, _, rfl, rfl, e2, line' (by omega), ?_⟩
      have s3 := same_put (o := .lst (vis ((s.length : Int) :: (s.take i).flatMap fun x => [(x.1 : Int), (x.2 : Int)]) ++ [vn x.1])) s2 np
      refine ⟨_, rfl, .inl ⟨rfl, _, SqL.of upd_same⟩, _, rfl, xa, _, _, _, rfl, rfl, SqT.of (s3 _ _ hx), at_of (j := 1) rfl rfl, p, _, _, rfl, rfl, upd_same, line' (by rw [List.length_append, List.length_singleton]; omega), ?_⟩
      refine ⟨_, rfl, same_put s3 np, ?_⟩
      rw [upd_same, List.take_add_one, ex, Option.toList_some, List.flatMap_append, ← List.cons_append, vis_app, List.append_assoc]
      rfl
    · rintro σ H2 ⟨x2, rfl, s2, e2⟩
      rw [hul, List.take_length] at e2
      refine ⟨_, rfl, q _ p s2 np ?_⟩
      rw [told_eq]
      exact e2
end
/-! ### begin -/
abbrev sBegin : Stmt := topS 52
theorem scBegin : FnScope ["how_many"] ["how_many"] (defScope sBegin) := ⟨rfl, rfl, rfl, by decide +kernel, rfl, by decide +kernel, by decide +kernel⟩
def spBegin : Sp := fun vs H Q _ => ∃ (a : Addr) (b : List Nat) (h : List Nat), vs = [.ref a] ∧ H a = some (.lst (vns b)) ∧ b.length ≤ 1024 ∧
  ∀ H' p, Same H H' → H p = none → H' p = some (.lst (vis (ansOf (Sq52.House.step h (.begin_ b))))) → Q (.ref p) H'
theorem vns_vis (b : List Nat) : vns b = (b.map Int.ofNat).map V.int := by
  unfold vns
  rw [List.map_map]
  rfl
theorem sum_cast (b : List Nat) : (b.map Int.ofNat).sum = ((b.sum : Nat) : Int) := by
  induction b with
  | nil => rfl
  | cons x t ih =>
    rw [List.map_cons, List.sum_cons, ih, List.sum_cons, Int.natCast_add]
    rfl
structure TxtC (mg : Str → Option Value) : Prop where
  len : mg "len" = none
  range : mg "range" = none
  sum : mg "sum" = none
  enumerate : mg "enumerate" = none
  reversed : mg "reversed" = none
  nSizes : ∃ t, mg "MOST_SIZES" = some (.int 60 t)
  nThings : ∃ t, mg "MOST_THINGS" = some (.int 60 t)
  nSize : ∃ t, mg "MOST_SIZE" = some (.int 60 t)
  nSets : ∃ t, mg "MOST_SETS" = some (.int 1000000000000000000 t)
  nListed : ∃ t, mg "MOST_LISTED" = some (.int 200 t)
  rOut : ∃ t, mg "OUT_OF_BOUNDS" = some (.int (-1) t)
  rNo : ∃ t, mg "NO_SUCH_SET" = some (.int (-3) t)
  rLong : ∃ t, mg "TOO_LONG_A_LIST" = some (.int (-5) t)
  rMany : ∃ t, mg "TOO_MANY_SETS" = some (.int (-7) t)
section
variable {P : Program} {w : World} {K : PySem.W.Frag} {mg : Str → Option Value} {base : Heap}
theorem ok_begin {f : Addr} {fd : FuncData} {k : Nat} (F : Fun K "begin" "begin" sBegin f fd) (T : TxtC mg) : FnOk P w K mg base CX0 (k + 1) f fd ["how_many"] spBegin := by
  obtain ⟨t1, g1⟩ := T.nSizes
  obtain ⟨t2, g2⟩ := T.nThings
  obtain ⟨t3, g3⟩ := T.rOut
  refine F.ok scBegin (fun vs H Q E h => ?_) (fun cdv A outer s H vs Q E hr h => ?_)
  · obtain ⟨a, b, h, rfl, _⟩ := h
    rfl
  · obtain ⟨a, b, h, rfl, ea, hl, q⟩ := h
    refine ⟨_, pss_cons (ps_if (PW.pt (pw_or (pt_cmpR op_gt (pe_callB call_len_seq (by rfl) T.len PySem.boot_len (pa_cons (pv 0) pa_nil)) (pe_glob (v := .int 60) rfl g1 ⟨_, rfl⟩) (nomark _)) (pw_or1 (pt_cmpR op_gt (pe_callB (cr_sum rfl) (by rfl) T.sum (by decide +kernel) (pa_cons (pv 0) pa_nil)) (pe_glob (v := .int 60) rfl g2 ⟨_, rfl⟩) (nomark _)))))
        (pss_one (ps_ret (pe_lst (pa_cons (pe_glob (v := .int (-1)) rfl g3 ⟨_, rfl⟩) pa_nil)))) pss_nil)
      (pss_one (ps_ret (pe_lst (pa_cons (pe_callB (cr_sum rfl) (by rfl) T.sum (by decide +kernel) (pa_cons (pv 0) pa_nil)) pa_nil)))), ?_⟩
    have eS : SqL K H a ((b.map Int.ofNat).map V.int) := by
      rw [← vns_vis]
      exact SqL.of ea
    have ebad : Sq52.SIZE < b.length ∨ Sq52.ITEMS < b.sum → ansOf (Sq52.House.step h (.begin_ b)) = [-1] := fun c => by
      show ansOf (if Sq52.SIZE < b.length ∨ Sq52.ITEMS < b.sum then (h, Sq52.says (-1)) else (b, Sq52.says b.sum)) = _
      rw [if_pos c]
      rfl
    have eok : ¬ (Sq52.SIZE < b.length ∨ Sq52.ITEMS < b.sum) → ansOf (Sq52.House.step h (.begin_ b)) = [((b.sum : Nat) : Int)] := fun c => by
      show ansOf (if Sq52.SIZE < b.length ∨ Sq52.ITEMS < b.sum then (h, Sq52.says (-1)) else (b, Sq52.says b.sum)) = _
      rw [if_neg c]
      rfl
    have z1 : Sq52.SIZE = 60 := rfl
    have z2 : Sq52.ITEMS = 60 := rfl
    refine ⟨_, rfl, a, _, rfl, .inl (SqL.of ea), _, _, rfl, rfl, _, rfl, ?_⟩
    by_cases c1 : 60 < b.length
    · refine itT (decide_eq_true (by rw [vns_len]; omega)) ?_
      refine iteT ?_
      refine ⟨(by show 1 ≤ sizeLine; decide), fun p np => q _ p (same_upd np) np ?_⟩
      rw [upd_same, ebad (by omega)]
      rfl
    · refine itF (decide_eq_false (by rw [vns_len]; omega)) ?_
      refine ⟨_, rfl, a, _, rfl, eS, _, _, rfl, rfl, _, rfl, ?_⟩
      by_cases c2 : 60 < b.sum
      · refine itT (decide_eq_true (by rw [sum_cast]; omega)) ?_
        refine ⟨(by show 1 ≤ sizeLine; decide), fun p np => q _ p (same_upd np) np ?_⟩
        rw [upd_same, ebad (by omega)]
        rfl
      · refine itF (decide_eq_false (by rw [sum_cast]; omega)) ?_
        refine ⟨_, rfl, a, _, rfl, eS, (by show 1 ≤ sizeLine; decide), fun p np => q _ p (same_upd np) np ?_⟩
        rw [upd_same, eok (by omega), sum_cast]
        rfl
end
end Ps

set_option Elab.async false
set_option linter.all false
set_option maxRecDepth 100000
set_option maxHeartbeats 4000000
namespace Ps
open PySem PySem.Spec PyProof.Rows L2
theorem once_of {o : Nat} (h : o ≤ 1) : vn o = vn (hop (o == 1)) := by
  rcases Nat.le_one_iff_eq_zero_or_eq_one.mp h with e | e <;> subst e <;> rfl
/-- the new object, and all that stood -/
theorem same_made {H : Hp} {x dx C : Addr} (nx : H x = none) (nd : H dx = none) : Same H (upd (upd H dx (.own x)) x (.ins C dx [])) := fun b o e => by
  rw [upd_ne (ne_of_none e nx), upd_ne (ne_of_none e nd)]
  exact e
structure Env1 (P : Program) (w : World) (K : PySem.W.Frag) (mg : Str → Option Value) (base : Heap) (C : Addr) (k : Nat) : Prop where
  T : TxtS K mg C
  G : TxtC mg
  mkI : ∃ (fI : Addr) (fdI : FuncData), Mk K C fI ∧ FnOk P w K mg base CX0 (k + 3) fI fdI ["self", "row", "repeats", "size", "lo", "hi"] (spInit C) ∧ Binds K fdI ["self", "row", "repeats", "size", "lo", "hi"] []
  how : ∃ (fH : Addr) (fdH : FuncData), Meth K C "how_many" fH ∧ FnOk P w K mg base CX0 (k + 1) fH fdH ["self"] (spHow C) ∧ Binds K fdH ["self"] []
  at_ : ∃ (fA : Addr) (fdA : FuncData), Meth K C "set_at" fA ∧ FnOk P w K mg base CX0 (k + 2) fA fdA ["self", "k"] (spAt C) ∧ Binds K fdA ["self", "k"] []
  num : ∃ (fN : Addr) (fdN : FuncData), Meth K C "number_of" fN ∧ FnOk P w K mg base CX0 (k + 2) fN fdN ["self", "places"] (spNum C) ∧ Binds K fdN ["self", "places"] []
  told : ∃ (fT : Addr) (fdT : FuncData), mg "set_told" = some (.ref fT) ∧ PySem.W.keepIn K (.ref fT) = true ∧ FnOk P w K mg base CX0 (k + 1) fT fdT ["things"] spTold ∧ Binds K fdT ["things"] []
theorem sf_meth (r : V) (once : Bool) (size : Nat) (w : V) : (sf r once size w).lookup ("how_many" : Str) = none ∧ (sf r once size w).lookup ("set_at" : Str) = none ∧ (sf r once size w).lookup ("number_of" : Str) = none :=
  ⟨sf_no _ _ _ _ (by decide +kernel) (by decide +kernel) (by decide +kernel) (by decide +kernel), sf_no _ _ _ _ (by decide +kernel) (by decide +kernel) (by decide +kernel) (by decide +kernel), sf_no _ _ _ _ (by decide +kernel) (by decide +kernel) (by decide +kernel) (by decide +kernel)⟩
abbrev sCount : Stmt := topS 53
theorem scCount : FnScope ["row", "repeats", "size", "lo", "hi", "sets"] ["row", "repeats", "size", "lo", "hi"] (defScope sCount) := ⟨rfl, rfl, rfl, by decide +kernel, rfl, by decide +kernel, by decide +kernel⟩
def spCount : Sp := fun vs H Q _ => ∃ (r : V) (h : List Nat) (o n lo hi : Nat), vs = [r, vn o, vn n, vn lo, vn hi] ∧ RowT H r (Sq52.itemsOf h) ∧ Good h ∧
  ∀ H' p, Same H H' → H p = none → H' p = some (.lst (vis (ansOf (Sq52.House.step h (.count o n lo hi))))) → Q (.ref p) H'
theorem ans_count_bad {h : List Nat} {o n lo hi : Nat} (c : 1 < o ∨ 60 < n) : ansOf (Sq52.House.step h (.count o n lo hi)) = [-1] := by
  show ansOf (Sq52.House.asked h o n lo hi _) = _
  rw [asked_bad o n lo hi _ c]
  rfl
theorem ans_count {h : List Nat} {o n lo hi : Nat} (ho : o ≤ 1) (hn : n ≤ 60) : ansOf (Sq52.House.step h (.count o n lo hi)) = if 10 ^ 18 < cntW h o n lo hi then [-7] else [((cntW h o n lo hi : Nat) : Int)] := by
  show ansOf (Sq52.House.asked h o n lo hi _) = _
  obtain ⟨gs, hg, e⟩ := asked_eq (h := h) o n lo hi (fun _ _ c => Sq52.says c) ho hn
  rw [e]
  split <;> rfl
section
variable {P : Program} {w : World} {K : PySem.W.Frag} {mg : Str → Option Value} {base : Heap} {C : Addr} {k : Nat}
theorem ok_count {f : Addr} {fd : FuncData} (F : Fun K "count" "count" sCount f fd) (E1 : Env1 P w K mg base C k) : FnOk P w K mg base CX0 (k + 5) f fd ["row", "repeats", "size", "lo", "hi"] spCount := by
  obtain ⟨t1, g1⟩ := E1.G.nSize
  obtain ⟨t2, g2⟩ := E1.G.nSets
  obtain ⟨t3, g3⟩ := E1.G.rOut
  obtain ⟨t4, g4⟩ := E1.G.rMany
  obtain ⟨fI, fdI, M, GI, bI⟩ := E1.mkI
  obtain ⟨fH, fdH, mH, GH, bH⟩ := E1.how
  have T := E1.T
  refine F.ok scCount (fun vs H Q E h => ?_) (fun cdv A outer s H vs Q E hr h => ?_)
  · obtain ⟨r, h, o, n, lo, hi, rfl, _⟩ := h
    rfl
  · obtain ⟨r, h, o, n, lo, hi, rfl, hR, hg, q⟩ := h
    have hr1 : Room (k + 1) _ := hr.mono (by omega)
    refine ⟨_, pss_cons (ps_if (PW.pt (pw_or (pt_cmpR op_gt (pv 1) pe_int (nomark _)) (pw_or1 (pt_cmpR op_gt (pv 2) (pe_glob (v := .int 60) rfl g1 ⟨_, rfl⟩) (nomark _)))))
        (pss_one (ps_ret (pe_lst (pa_cons (pe_glob (v := .int (-1)) rfl g3 ⟨_, rfl⟩) pa_nil)))) pss_nil)
      (pss_cons (ps_set (i := 5) scCount.nd rfl (.inl rfl) (pe_make M GI hr rfl T.mgC bI .nil pass0 (pa_cons (pv 0) (pa_cons (pv 1) (pa_cons (pv 2) (pa_cons (pv 3) (pa_cons (pv 4) pa_nil)))))))
      (pss_cons (ps_if (pt_cmpR op_gt (pe_meth0 (pv 5) T.cl mH GH hr1 bH .nil pass0) (pe_glob (v := .int 1000000000000000000) rfl g2 ⟨_, rfl⟩) (nomark _))
        (pss_one (ps_ret (pe_lst (pa_cons (pe_glob (v := .int (-7)) rfl g4 ⟨_, rfl⟩) pa_nil)))) pss_nil)
      (pss_one (ps_ret (pe_lst (pa_cons (pe_meth0 (pv 5) T.cl mH GH hr1 bH .nil pass0) pa_nil)))))), ?_⟩
    have bad : 1 < o ∨ 60 < n → ∀ p, H p = none → Q (.ref p) (upd H p (.lst [.int (-1)])) := fun c p np => q _ p (same_upd np) np (by
      rw [upd_same, ans_count_bad c]
      rfl)
    refine ⟨_, rfl, _, _, rfl, rfl, _, rfl, ?_⟩
    by_cases c1 : 1 < o
    · refine itT (decide_eq_true (by omega)) (iteT ?_)
      exact ⟨(by show 1 ≤ sizeLine; decide), bad (.inl c1)⟩
    refine itF (decide_eq_false (by omega)) ?_
    refine ⟨_, rfl, _, _, rfl, rfl, _, rfl, ?_⟩
    by_cases c2 : 60 < n
    · refine itT (decide_eq_true (by omega)) ?_
      exact ⟨(by show 1 ≤ sizeLine; decide), bad (.inr c2)⟩
    refine itF (decide_eq_false (by omega)) ?_
    have ho : o ≤ 1 := by omega
    have hn : n ≤ 60 := by omega
    have ec := ans_count (h := h) (lo := lo) (hi := hi) ho hn
    have hrl : (Sq52.itemsOf h).length ≤ 60 := by rw [itemsOf_len]; exact hg.2
    refine ⟨_, rfl, _, rfl, _, rfl, _, rfl, _, rfl, fun x dx nx nd ne => ?_⟩
    refine ⟨x, dx, r, Sq52.itemsOf h, (o == 1), n, lo, hi, by rw [once_of ho] <;> rfl, upd_same, RowT.same (same_made nx nd) hR, row_pos h, hrl, hn, fun H1 hS kp => ⟨rfl, ?_⟩⟩
    have s1 : Same H H1 := Same.made nx nd kp
    obtain ⟨a, dx2, rr, ww, ea0, ea, _, _⟩ := hS.ex
    cases ea0
    obtain ⟨m1, m2, m3⟩ := sf_meth rr (o == 1) n ww
    refine ⟨_, rfl, x, dx2, _, rfl, ea, m1, _, _, _, _, _, _, rfl, hS, _, _, rfl, rfl, _, rfl, ?_⟩
    by_cases c3 : 10 ^ 18 < cntW h o n lo hi
    · refine itT (decide_eq_true (by show (1000000000000000000 : Int) < ((cntW h o n lo hi : Nat) : Int); omega)) ?_
      refine ⟨(by show 1 ≤ sizeLine; decide), fun p np => q _ p (s1.trans (same_upd np)) (s1.free np) ?_⟩
      rw [upd_same, ec, if_pos c3]
      rfl
    · refine itF (decide_eq_false (by show ¬ (1000000000000000000 : Int) < ((cntW h o n lo hi : Nat) : Int); omega)) ?_
      refine ⟨_, rfl, x, dx2, _, rfl, ea, m1, _, _, _, _, _, _, rfl, hS, (by show 1 ≤ sizeLine; decide), fun p np => q _ p (s1.trans (same_upd np)) (s1.free np) ?_⟩
      rw [upd_same, ec, if_neg c3]
      rfl
end
end Ps

set_option Elab.async false
set_option linter.all false
set_option maxRecDepth 100000
set_option maxHeartbeats 4000000
namespace Ps
open PySem PySem.Spec PyProof.Rows L2
theorem pick_len {once : Bool} {lo hi : Nat} {l : List Sq52.Item} {n u k : Nat} {s : List Sq52.Item} (h : Pick once lo hi l n u k s) : Pos l → s.length ≤ n := by
  induction h with
  | done => intro _; exact Nat.zero_le _
  | take h1 h2 h3 h4 ih =>
    intro p
    have := ih p.nx
    have := p.head
    rw [List.length_cons]
    omega
  | skip h1 h2 h3 ih => intro p; exact ih p.tail
abbrev sMake : Stmt := topS 54
theorem scMake : FnScope ["row", "repeats", "size", "lo", "hi", "k", "sets"] ["row", "repeats", "size", "lo", "hi", "k"] (defScope sMake) := ⟨rfl, rfl, rfl, by decide +kernel, rfl, by decide +kernel, by decide +kernel⟩
def spMake : Sp := fun vs H Q _ => ∃ (r : V) (h : List Nat) (o n lo hi k : Nat), vs = [r, vn o, vn n, vn lo, vn hi, vn k] ∧ RowT H r (Sq52.itemsOf h) ∧ Good h ∧
  ∀ H' p, Same H H' → H p = none → H' p = some (.lst (vis (ansOf (Sq52.House.step h (.make o n lo hi k))))) → Q (.ref p) H'
theorem ans_make_bad {h : List Nat} {o n lo hi k : Nat} (c : 1 < o ∨ 60 < n) : ansOf (Sq52.House.step h (.make o n lo hi k)) = [-1] := by
  show ansOf (Sq52.House.asked h o n lo hi _) = _
  rw [asked_bad o n lo hi _ c]
  rfl
theorem ans_make {h : List Nat} (g : Good h) {o n lo hi k : Nat} (ho : o ≤ 1) (hn : n ≤ 60) : (10 ^ 18 < cntW h o n lo hi → ansOf (Sq52.House.step h (.make o n lo hi k)) = [-7]) ∧
    (¬ 10 ^ 18 < cntW h o n lo hi → cntW h o n lo hi ≤ k → ansOf (Sq52.House.step h (.make o n lo hi k)) = [-3]) ∧
    (¬ 10 ^ 18 < cntW h o n lo hi → k < cntW h o n lo hi → ∃ s, Pick (o == 1) lo hi (Sq52.itemsOf h) n 0 k s ∧ ansOf (Sq52.House.step h (.make o n lo hi k)) = ((cntW h o n lo hi : Nat) : Int) :: Sq52.told s) := by
  obtain ⟨gs, hg, e⟩ := asked_eq (h := h) o n lo hi (fun l gs c => match Sq52.make (o == 1) Sq52.FUEL l gs n lo hi k with
    | none => Sq52.says (-3)
    | some s => ⟨c, Sq52.told s⟩) ho hn
  have e' : Sq52.House.step h (.make o n lo hi k) = _ := e
  obtain ⟨m1, m2⟩ := spec_make (o := o) (lo := lo) (hi := hi) g hg hn k
  refine ⟨fun c => ?_, fun c c2 => ?_, fun c c2 => ?_⟩
  · rw [e', if_pos c]
    rfl
  · rw [e', if_neg c, m2 c2]
    rfl
  · obtain ⟨s, e1, e2⟩ := m1 c2
    refine ⟨s, e2, ?_⟩
    rw [e', if_neg c, e1]
    rfl
section
variable {P : Program} {w : World} {K : PySem.W.Frag} {mg : Str → Option Value} {base : Heap} {C : Addr} {k : Nat}
theorem ok_make {f : Addr} {fd : FuncData} (F : Fun K "make" "make" sMake f fd) (E1 : Env1 P w K mg base C k) : FnOk P w K mg base CX0 (k + 5) f fd ["row", "repeats", "size", "lo", "hi", "k"] spMake := by
  obtain ⟨t1, g1⟩ := E1.G.nSize
  obtain ⟨t2, g2⟩ := E1.G.nSets
  obtain ⟨t3, g3⟩ := E1.G.rOut
  obtain ⟨t4, g4⟩ := E1.G.rMany
  obtain ⟨t5, g5⟩ := E1.G.rNo
  obtain ⟨fI, fdI, M, GI, bI⟩ := E1.mkI
  obtain ⟨fH, fdH, mH, GH, bH⟩ := E1.how
  obtain ⟨fA, fdA, mA, GA, bA⟩ := E1.at_
  obtain ⟨fT, fdT, gT, kT, GT, bT⟩ := E1.told
  have T := E1.T
  refine F.ok scMake (fun vs H Q E h => ?_) (fun cdv A outer s H vs Q E hr h => ?_)
  · obtain ⟨r, h, o, n, lo, hi, kk, rfl, _⟩ := h
    rfl
  · obtain ⟨r, h, o, n, lo, hi, kk, rfl, hR, hg, q⟩ := h
    have hr1 : Room (k + 1) _ := hr.mono (by omega)
    have hr2 : Room (k + 2) _ := hr.mono (by omega)
    refine ⟨_, pss_cons (ps_if (PW.pt (pw_or (pt_cmpR op_gt (pv 1) pe_int (nomark _)) (pw_or1 (pt_cmpR op_gt (pv 2) (pe_glob (v := .int 60) rfl g1 ⟨_, rfl⟩) (nomark _)))))
        (pss_one (ps_ret (pe_lst (pa_cons (pe_glob (v := .int (-1)) rfl g3 ⟨_, rfl⟩) pa_nil)))) pss_nil)
      (pss_cons (ps_set (i := 6) scMake.nd rfl (.inl rfl) (pe_make M GI hr rfl T.mgC bI .nil pass0 (pa_cons (pv 0) (pa_cons (pv 1) (pa_cons (pv 2) (pa_cons (pv 3) (pa_cons (pv 4) pa_nil)))))))
      (pss_cons (ps_if (pt_cmpR op_gt (pe_meth0 (pv 6) T.cl mH GH hr1 bH .nil pass0) (pe_glob (v := .int 1000000000000000000) rfl g2 ⟨_, rfl⟩) (nomark _))
        (pss_one (ps_ret (pe_lst (pa_cons (pe_glob (v := .int (-7)) rfl g4 ⟨_, rfl⟩) pa_nil)))) pss_nil)
      (pss_cons (ps_if (pt_cmpR op_ge (pv 5) (pe_meth0 (pv 6) T.cl mH GH hr1 bH .nil pass0) (nomark _))
        (pss_one (ps_ret (pe_lst (pa_cons (pe_glob (v := .int (-3)) rfl g5 ⟨_, rfl⟩) pa_nil)))) pss_nil)
      (pss_one (ps_ret (pe_op op_cat (pe_lst (pa_cons (pe_meth0 (pv 6) T.cl mH GH hr1 bH .nil pass0) pa_nil)) (pe_call GT hr1 (by rfl) gT kT bT .nil pass0 (pa_cons (pe_meth (pv 6) T.cl mA GA hr2 bA .nil pass0 (pa_cons (pv 5) pa_nil)) pa_nil)))))))), ?_⟩
    have bad : 1 < o ∨ 60 < n → ∀ p, H p = none → Q (.ref p) (upd H p (.lst [.int (-1)])) := fun c p np => q _ p (same_upd np) np (by
      rw [upd_same, ans_make_bad c]
      rfl)
    refine ⟨_, rfl, _, _, rfl, rfl, _, rfl, ?_⟩
    by_cases c1 : 1 < o
    · refine itT (decide_eq_true (by omega)) (iteT ?_)
      exact ⟨(by show 1 ≤ sizeLine; decide), bad (.inl c1)⟩
    refine itF (decide_eq_false (by omega)) ?_
    refine ⟨_, rfl, _, _, rfl, rfl, _, rfl, ?_⟩
    by_cases c2 : 60 < n
    · refine itT (decide_eq_true (by omega)) ?_
      exact ⟨(by show 1 ≤ sizeLine; decide), bad (.inr c2)⟩
    refine itF (decide_eq_false (by omega)) ?_
    have ho : o ≤ 1 := by omega
    have hn : n ≤ 60 := by omega
    obtain ⟨ec1, ec2, ec3⟩ := ans_make (lo := lo) (hi := hi) (k := kk) hg ho hn
    have hrl : (Sq52.itemsOf h).length ≤ 60 := by rw [itemsOf_len]; exact hg.2
    refine ⟨_, rfl, _, rfl, _, rfl, _, rfl, _, rfl, fun x dx nx nd ne => ?_⟩
    refine ⟨x, dx, r, Sq52.itemsOf h, (o == 1), n, lo, hi, by rw [once_of ho] <;> rfl, upd_same, RowT.same (same_made nx nd) hR, row_pos h, hrl, hn, fun H1 hS kp => ⟨rfl, ?_⟩⟩
    have s1 : Same H H1 := Same.made nx nd kp
    obtain ⟨a, dx2, rr, ww, ea0, ea, _, _⟩ := hS.ex
    cases ea0
    obtain ⟨m1, m2, m3⟩ := sf_meth rr (o == 1) n ww
    refine ⟨_, rfl, x, dx2, _, rfl, ea, m1, _, _, _, _, _, _, rfl, hS, _, _, rfl, rfl, _, rfl, ?_⟩
    by_cases c3 : 10 ^ 18 < cntW h o n lo hi
    · refine itT (decide_eq_true (by show (1000000000000000000 : Int) < ((cntW h o n lo hi : Nat) : Int); omega)) ?_
      refine ⟨(by show 1 ≤ sizeLine; decide), fun p np => q _ p (s1.trans (same_upd np)) (s1.free np) ?_⟩
      rw [upd_same, ec1 c3]
      rfl
    refine itF (decide_eq_false (by show ¬ (1000000000000000000 : Int) < ((cntW h o n lo hi : Nat) : Int); omega)) ?_
    refine ⟨_, rfl, _, rfl, x, dx2, _, rfl, ea, m1, _, _, _, _, _, _, rfl, hS, _, _, rfl, rfl, _, rfl, ?_⟩
    by_cases c4 : cntW h o n lo hi ≤ kk
    · refine itT (decide_eq_true (by show ((cntW h o n lo hi : Nat) : Int) ≤ (kk : Int); omega)) ?_
      refine ⟨(by show 1 ≤ sizeLine; decide), fun p np => q _ p (s1.trans (same_upd np)) (s1.free np) ?_⟩
      rw [upd_same, ec2 c3 c4]
      rfl
    refine itF (decide_eq_false (by show ¬ ((cntW h o n lo hi : Nat) : Int) ≤ (kk : Int); omega)) ?_
    obtain ⟨st, hP, ea3⟩ := ec3 c3 (by omega)
    have hsl := pick_len hP (row_pos h)
    refine ⟨_, rfl, x, dx2, _, rfl, ea, m1, _, _, _, _, _, _, rfl, hS, (by show 1 ≤ sizeLine; decide), fun p np => ?_⟩
    have sp := same_upd (o := .lst [vn (W (o == 1) lo hi (Sq52.itemsOf h) n 0)]) np
    refine ⟨_, rfl, x, dx2, _, rfl, sp _ _ ea, m2, _, rfl, _, _, _, _, _, _, _, st, rfl, hS.same sp, row_pos h, hn, hP, fun H3 p3 us s3 n3 e3 al3 => ?_⟩
    refine ⟨p3, us, st, rfl, e3, al3, by omega, fun H4 p4 s4 n4 e4 => ?_⟩
    refine ⟨p, p4, _, _, rfl, rfl, s4 _ _ (s3 _ _ upd_same), e4, ?_, fun p5 n5 => ?_⟩
    · rw [vis_len, told_len]
      exact line (by rw [List.length_singleton]; omega)
    · have sA := ((s1.trans sp).trans s3).trans s4
      refine q _ p5 (sA.trans (same_upd n5)) (sA.free n5) ?_
      rw [upd_same, ea3]
      rfl
end
abbrev sList : Stmt := topS 58
theorem scList : FnScope ["row", "repeats", "size", "lo", "hi", "sets", "answer", "k"] ["row", "repeats", "size", "lo", "hi"] (defScope sList) := ⟨rfl, rfl, rfl, by decide +kernel, rfl, by decide +kernel, by decide +kernel⟩
def spList : Sp := fun vs H Q _ => ∃ (r : V) (h : List Nat) (o n lo hi : Nat), vs = [r, vn o, vn n, vn lo, vn hi] ∧ RowT H r (Sq52.itemsOf h) ∧ Good h ∧
  ∀ H' p, Same H H' → H p = none → H' p = some (.lst (vis (ansOf (Sq52.House.step h (.list o n lo hi))))) → Q (.ref p) H'
theorem ans_list_bad {h : List Nat} {o n lo hi : Nat} (c : 1 < o ∨ 60 < n) : ansOf (Sq52.House.step h (.list o n lo hi)) = [-1] := by
  show ansOf (Sq52.House.asked h o n lo hi _) = _
  rw [asked_bad o n lo hi _ c]
  rfl
theorem ans_list {h : List Nat} (g : Good h) {o n lo hi : Nat} (ho : o ≤ 1) (hn : n ≤ 60) : (10 ^ 18 < cntW h o n lo hi → ansOf (Sq52.House.step h (.list o n lo hi)) = [-7]) ∧
    (¬ 10 ^ 18 < cntW h o n lo hi → 200 < cntW h o n lo hi → ansOf (Sq52.House.step h (.list o n lo hi)) = [-5]) ∧
    (¬ 10 ^ 18 < cntW h o n lo hi → ¬ 200 < cntW h o n lo hi → ∃ F : Nat → List Int, ansOf (Sq52.House.step h (.list o n lo hi)) = ((cntW h o n lo hi : Nat) : Int) :: (List.range (cntW h o n lo hi)).flatMap F ∧
      ∀ k, k < cntW h o n lo hi → ∃ s, Pick (o == 1) lo hi (Sq52.itemsOf h) n 0 k s ∧ F k = Sq52.told s) := by
  obtain ⟨gs, hg, e⟩ := asked_eq (h := h) o n lo hi (fun l gs c => if Sq52.LISTED < c then Sq52.says (-5) else ⟨c, (List.range c).flatMap fun k => match Sq52.make (o == 1) Sq52.FUEL l gs n lo hi k with
    | none => []
    | some s => Sq52.told s⟩) ho hn
  have e' : Sq52.House.step h (.list o n lo hi) = _ := e
  refine ⟨fun c => ?_, fun c c2 => ?_, fun c c2 => ?_⟩
  · rw [e', if_pos c]
    rfl
  · rw [e', if_neg c, if_pos (show Sq52.LISTED < cntW h o n lo hi from c2)]
    rfl
  · refine ⟨_, by rw [e', if_neg c, if_neg (show ¬ Sq52.LISTED < cntW h o n lo hi from c2)]; rfl, fun k hk => ?_⟩
    obtain ⟨s, e1, e2⟩ := (spec_make (o := o) (lo := lo) (hi := hi) g hg hn k).1 hk
    refine ⟨s, e2, ?_⟩
    rw [e1]
theorem flat_len (F : Nat → List Int) (m : Nat) : ∀ i, (∀ k, k < i → (F k).length ≤ m) → ((List.range i).flatMap F).length ≤ m * i
  | 0, _ => by simp
  | i + 1, h => by
    have := flat_len F m i fun k hk => h k (by omega)
    have := h i (by omega)
    rw [List.range_succ, List.flatMap_append, List.length_append, Nat.mul_succ]
    simp only [List.flatMap_cons, List.flatMap_nil, List.append_nil]
    omega
section
variable {P : Program} {w : World} {K : PySem.W.Frag} {mg : Str → Option Value} {base : Heap} {C : Addr} {k : Nat}
theorem ok_list {f : Addr} {fd : FuncData} (F : Fun K "list_all" "list_all" sList f fd) (E1 : Env1 P w K mg base C k) : FnOk P w K mg base CX0 (k + 5) f fd ["row", "repeats", "size", "lo", "hi"] spList := by
  obtain ⟨t1, g1⟩ := E1.G.nSize
  obtain ⟨t2, g2⟩ := E1.G.nSets
  obtain ⟨t3, g3⟩ := E1.G.rOut
  obtain ⟨t4, g4⟩ := E1.G.rMany
  obtain ⟨t5, g5⟩ := E1.G.rLong
  obtain ⟨t6, g6⟩ := E1.G.nListed
  obtain ⟨fI, fdI, M, GI, bI⟩ := E1.mkI
  obtain ⟨fH, fdH, mH, GH, bH⟩ := E1.how
  obtain ⟨fA, fdA, mA, GA, bA⟩ := E1.at_
  obtain ⟨fT, fdT, gT, kT, GT, bT⟩ := E1.told
  have T := E1.T
  refine F.ok scList (fun vs H Q E h => ?_) (fun cdv A outer s H vs Q E hr h => ?_)
  · obtain ⟨r, h, o, n, lo, hi, rfl, _⟩ := h
    rfl
  · obtain ⟨r, h, o, n, lo, hi, rfl, hR, hg, q⟩ := h
    have hr1 : Room (k + 1) _ := hr.mono (by omega)
    have hr2 : Room (k + 2) _ := hr.mono (by omega)
    refine ⟨_, pss_cons (ps_if (PW.pt (pw_or (pt_cmpR op_gt (pv 1) pe_int (nomark _)) (pw_or1 (pt_cmpR op_gt (pv 2) (pe_glob (v := .int 60) rfl g1 ⟨_, rfl⟩) (nomark _)))))
        (pss_one (ps_ret (pe_lst (pa_cons (pe_glob (v := .int (-1)) rfl g3 ⟨_, rfl⟩) pa_nil)))) pss_nil)
      (pss_cons (ps_set (i := 5) scList.nd rfl (.inl rfl) (pe_make M GI hr rfl T.mgC bI .nil pass0 (pa_cons (pv 0) (pa_cons (pv 1) (pa_cons (pv 2) (pa_cons (pv 3) (pa_cons (pv 4) pa_nil)))))))
      (pss_cons (ps_if (pt_cmpR op_gt (pe_meth0 (pv 5) T.cl mH GH hr1 bH .nil pass0) (pe_glob (v := .int 1000000000000000000) rfl g2 ⟨_, rfl⟩) (nomark _))
        (pss_one (ps_ret (pe_lst (pa_cons (pe_glob (v := .int (-7)) rfl g4 ⟨_, rfl⟩) pa_nil)))) pss_nil)
      (pss_cons (ps_if (pt_cmpR op_gt (pe_meth0 (pv 5) T.cl mH GH hr1 bH .nil pass0) (pe_glob (v := .int 200) rfl g6 ⟨_, rfl⟩) (nomark _))
        (pss_one (ps_ret (pe_lst (pa_cons (pe_glob (v := .int (-5)) rfl g5 ⟨_, rfl⟩) pa_nil)))) pss_nil)
      (pss_cons (ps_set (i := 6) scList.nd rfl (.inl rfl) (pe_lst (pa_cons (pe_meth0 (pv 5) T.cl mH GH hr1 bH .nil pass0) pa_nil)))
      (pss_cons (ps_for PassesOwn.never rfl (pi_range1 rfl E1.G.range (pa_cons (pe_meth0 (pv 5) T.cl mH GH hr1 bH .nil pass0) pa_nil)) (pg_name (i := 7) scList.nd rfl (.inl rfl))
        (pss_one (ps_expr (pe_bm PySem.F.plainAttrs_list PySem.F.slot_list_extend PySem.F.type_list_extend mt_extend (pv 6) (pa_cons (pe_call GT hr1 (by rfl) gT kT bT .nil pass0 (pa_cons (pe_meth (pv 5) T.cl mA GA hr2 bA .nil pass0 (pa_cons (pv 7) pa_nil)) pa_nil)) pa_nil)))))
      (pss_one (ps_ret (pv 6)))))))), ?_⟩
    have bad : 1 < o ∨ 60 < n → ∀ p, H p = none → Q (.ref p) (upd H p (.lst [.int (-1)])) := fun c p np => q _ p (same_upd np) np (by
      rw [upd_same, ans_list_bad c]
      rfl)
    refine ⟨_, rfl, _, _, rfl, rfl, _, rfl, ?_⟩
    by_cases c1 : 1 < o
    · refine itT (decide_eq_true (by omega)) (iteT ?_)
      exact ⟨(by show 1 ≤ sizeLine; decide), bad (.inl c1)⟩
    refine itF (decide_eq_false (by omega)) ?_
    refine ⟨_, rfl, _, _, rfl, rfl, _, rfl, ?_⟩
    by_cases c2 : 60 < n
    · refine itT (decide_eq_true (by omega)) ?_
      exact ⟨(by show 1 ≤ sizeLine; decide), bad (.inr c2)⟩
    refine itF (decide_eq_false (by omega)) ?_
    have ho : o ≤ 1 := by omega
    have hn : n ≤ 60 := by omega
    obtain ⟨ec1, ec2, ec3⟩ := ans_list (lo := lo) (hi := hi) hg ho hn
    have hrl : (Sq52.itemsOf h).length ≤ 60 := by rw [itemsOf_len]; exact hg.2
    refine ⟨_, rfl, _, rfl, _, rfl, _, rfl, _, rfl, fun x dx nx nd ne => ?_⟩
    refine ⟨x, dx, r, Sq52.itemsOf h, (o == 1), n, lo, hi, by rw [once_of ho] <;> rfl, upd_same, RowT.same (same_made nx nd) hR, row_pos h, hrl, hn, fun H1 hS kp => ⟨rfl, ?_⟩⟩
    have s1 : Same H H1 := Same.made nx nd kp
    obtain ⟨a, dx2, rr, ww, ea0, ea, _, _⟩ := hS.ex
    cases ea0
    obtain ⟨m1, m2, m3⟩ := sf_meth rr (o == 1) n ww
    refine ⟨_, rfl, x, dx2, _, rfl, ea, m1, _, _, _, _, _, _, rfl, hS, _, _, rfl, rfl, _, rfl, ?_⟩
    by_cases c3 : 10 ^ 18 < cntW h o n lo hi
    · refine itT (decide_eq_true (by show (1000000000000000000 : Int) < ((cntW h o n lo hi : Nat) : Int); omega)) ?_
      refine ⟨(by show 1 ≤ sizeLine; decide), fun p np => q _ p (s1.trans (same_upd np)) (s1.free np) ?_⟩
      rw [upd_same, ec1 c3]
      rfl
    refine itF (decide_eq_false (by show ¬ (1000000000000000000 : Int) < ((cntW h o n lo hi : Nat) : Int); omega)) ?_
    refine ⟨_, rfl, x, dx2, _, rfl, ea, m1, _, _, _, _, _, _, rfl, hS, _, _, rfl, rfl, _, rfl, ?_⟩
    by_cases c4 : 200 < cntW h o n lo hi
    · refine itT (decide_eq_true (by show (200 : Int) < ((cntW h o n lo hi : Nat) : Int); omega)) ?_
      refine ⟨(by show 1 ≤ sizeLine; decide), fun p np => q _ p (s1.trans (same_upd np)) (s1.free np) ?_⟩
      rw [upd_same, ec2 c3 c4]
      rfl
    refine itF (decide_eq_false (by show ¬ (200 : Int) < ((cntW h o n lo hi : Nat) : Int); omega)) ?_
    obtain ⟨Fk, ea3, hF⟩ := ec3 c3 c4
    refine ⟨_, rfl, x, dx2, _, rfl, ea, m1, _, _, _, _, _, _, rfl, hS, (by show 1 ≤ sizeLine; decide), fun p np => ?_⟩
    have sp := same_upd (o := .lst [vn (W (o == 1) lo hi (Sq52.itemsOf h) n 0)]) np
    have np0 := s1.free np
    have s2 := s1.trans sp
    refine ⟨_, rfl, x, dx2, _, rfl, sp _ _ ea, m1, _, _, _, _, _, _, rfl, hS.same sp, _, rfl, (by show -(2 ^ 62) ≤ ((cntW h o n lo hi : Nat) : Int); omega), (by show ((cntW h o n lo hi : Nat) : Int) < 2 ^ 62; omega), ?_⟩
    rw [show ((W (o == 1) lo hi (Sq52.itemsOf h) n 0 : Nat) : Int).toNat = cntW h o n lo hi from rfl]
    refine for_it (walk_range (lo := 0) (n := cntW h o n lo hi)) (fun i σ H' => ∃ x7, σ = [some r, some (vn o), some (vn n), some (vn lo), some (vn hi), some (.ref x), some (.ref p), x7] ∧ Same H H' ∧ Same H1 H' ∧ H' p = some (.lst (vis (((cntW h o n lo hi : Nat) : Int) :: (List.range i).flatMap Fk))))
      ⟨none, rfl, s2, sp, upd_same⟩ (fun _ _ _ _ _ => trivial) ?_ ?_
    · rintro i v σ H2 H3 hi' ⟨x7, rfl, sH, sH1, e2⟩ ⟨rfl, rfl⟩
      obtain ⟨st, hP, eF⟩ := hF i hi'
      have hsl := pick_len hP (row_pos h)
      refine ⟨_, rfl, .inl ⟨rfl, _, SqL.of e2⟩, _, rfl, x, dx2, _, rfl, sH1 _ _ ea, m2, _, rfl, .ref x, _, _, _, _, _, i, st, (by show [V.ref x, V.int (0 + (i : Int))] = _; rw [Int.zero_add]; rfl), hS.same sH1, row_pos h, hn, hP, fun H4 p4 us s4 n4 e4 al4 => ?_⟩
      refine ⟨p4, us, st, rfl, e4, al4, by omega, fun H5 p5 s5 n5 e5 => ?_⟩
      have s45 := s4.trans s5
      have hfl := flat_len Fk 121 i fun k hk => by
        obtain ⟨s', hP', eF'⟩ := hF k (by omega)
        have := pick_len hP' (row_pos h)
        rw [eF', told_len]
        omega
      refine ⟨p, p5, _, _, rfl, rfl, s45 _ _ e2, e5, ?_, ?_⟩
      · rw [vis_len, vis_len, told_len, List.length_cons]
        exact line (by omega)
      · refine ⟨_, rfl, same_put (sH.trans s45) np0, same_put (sH1.trans s45) np, ?_⟩
        rw [upd_same, List.range_succ, List.flatMap_append, ← List.cons_append, vis_app]
        simp only [List.flatMap_cons, List.flatMap_nil, List.append_nil]
        rw [eF]
    · rintro σ H2 ⟨x7, rfl, sH, sH1, e2⟩
      refine ⟨_, rfl, q _ p sH np0 ?_⟩
      rw [ea3]
      exact e2
end
end Ps

set_option Elab.async false
set_option linter.all false
set_option maxRecDepth 100000
set_option maxHeartbeats 4000000
/-! number and next by the ways: the specification's answers -/
namespace Ps
theorem found_left {h : List Nat} {o lo hi : Nat} {l : List Nat} {f} (c : l.length % 2 = 1) : Sq52.House.found h o lo hi l f = (h, Sq52.says (-3)) := by
  unfold Sq52.House.found
  rw [pairs_odd.mpr c]
theorem found_rep {h : List Nat} {o lo hi : Nat} {l : List Nat} {s : List Sq52.Item} {f} (hp : Sq52.pairs l = some s) (c : 1 < o) : Sq52.House.found h o lo hi l f = (h, Sq52.says (-1)) := by
  unfold Sq52.House.found
  rw [hp]
  exact if_pos c
theorem found_no {h : List Nat} {o lo hi : Nat} {l : List Nat} {s : List Sq52.Item} {f} (hp : Sq52.pairs l = some s) (c : ¬ 1 < o) (hs : setP (o == 1) (Sq52.itemsOf h) lo hi s = false) : Sq52.House.found h o lo hi l f = (h, Sq52.says (-3)) := by
  unfold Sq52.House.found
  rw [hp]
  dsimp only
  rw [if_neg c, isSet_setP, if_pos hs]
theorem found_big {h : List Nat} {o lo hi : Nat} {l : List Nat} {s : List Sq52.Item} {f} (hp : Sq52.pairs l = some s) (c : ¬ 1 < o) (hs : setP (o == 1) (Sq52.itemsOf h) lo hi s = true) (hz : 60 < sz s) : Sq52.House.found h o lo hi l f = (h, Sq52.says (-1)) := by
  unfold Sq52.House.found
  rw [hp]
  dsimp only
  rw [if_neg c, isSet_setP, if_neg (by rw [hs]; decide)]
  exact asked_bad o (sz s) lo hi _ (.inr hz)
theorem found_ok {h : List Nat} (g : Good h) {o lo hi : Nat} {l : List Nat} {s : List Sq52.Item} {ps : List Nat} (f : List Sq52.Item → List Sq52.Grid → Nat → Nat → Sq52.Out) (hp : Sq52.pairs l = some s) (ho : o ≤ 1) (hps : placesOf (Sq52.itemsOf h) s = some ps) (hord : inOrd (o == 1) ps = true) (hlo : lo ≤ s.length) (hhi : s.length ≤ hi) (hz : sz s ≤ 60) :
    ∃ gs, GsOk (o == 1) (sz s) (fl (sz s) (Sq52.itemsOf h)) gs ∧
    Sq52.House.found h o lo hi l f = if 10 ^ 18 < cntW h o (sz s) lo hi then (h, Sq52.says (-7)) else (h, f (fl (sz s) (Sq52.itemsOf h)) gs (sz s) (rankP (o == 1) lo hi (Sq52.itemsOf h) 0 (sz s) 0 ps)) := by
  have hs : setP (o == 1) (Sq52.itemsOf h) lo hi s = true := by
    unfold setP
    rw [hps]
    dsimp only
    rw [hord, decide_eq_true hlo, decide_eq_true hhi]
    rfl
  obtain ⟨gs, hg, e⟩ := asked_eq (h := h) o (sz s) lo hi (fun is gs _ => f is gs (sz s) (Sq52.number (o == 1) Sq52.FUEL is gs lo hi s)) ho hz
  refine ⟨gs, hg, ?_⟩
  unfold Sq52.House.found
  rw [hp]
  dsimp only
  rw [if_neg (by omega), isSet_setP, if_neg (by rw [hs]; decide)]
  refine Eq.trans e ?_
  rw [spec_number g hps hord hz hhi hg]
theorem setP_true {once : Bool} {row : List Sq52.Item} {lo hi : Nat} {s : List Sq52.Item} (h : setP once row lo hi s = true) : ∃ ps, placesOf row s = some ps ∧ inOrd once ps = true ∧ lo ≤ s.length ∧ s.length ≤ hi := by
  unfold setP at h
  cases e : placesOf row s with
  | none => rw [e] at h; cases h
  | some ps =>
    rw [e] at h
    dsimp only at h
    rw [Bool.and_eq_true, Bool.and_eq_true, decide_eq_true_eq, decide_eq_true_eq] at h
    exact ⟨ps, rfl, h.1, h.2.1, h.2.2⟩
theorem szP_sz {row : List Sq52.Item} {ps : List Nat} {s : List Sq52.Item} (h : ps.map (fun p => row.getD p (0, 0)) = s) : szP row ps = sz s := by
  subst h
  unfold szP sz
  rw [List.map_map]
  rfl
theorem step_number (h : List Nat) (o lo hi : Nat) (l : List Nat) : Sq52.House.step h (.number o lo hi l) = Sq52.House.found h o lo hi l (fun _ _ n k => ⟨(k : Int), [(n : Int)]⟩) := rfl
theorem step_next (h : List Nat) (o lo hi : Nat) (l : List Nat) : Sq52.House.step h (.next o lo hi l) = Sq52.House.found h o lo hi l (fun is gs n k => match Sq52.make (o == 1) Sq52.FUEL is gs n lo hi (k + 1) with
    | none => Sq52.says (-6)
    | some s => ⟨(k + 1 : Nat), Sq52.told s⟩) := rfl
/-- what number and next share: by the set's form -/
theorem ans_number {h : List Nat} (g : Good h) {o lo hi : Nat} {l : List Nat} {s : List Sq52.Item} {ps : List Nat} (hp : Sq52.pairs l = some s) (ho : o ≤ 1) (hps : placesOf (Sq52.itemsOf h) s = some ps) (hord : inOrd (o == 1) ps = true) (hlo : lo ≤ s.length) (hhi : s.length ≤ hi) (hz : sz s ≤ 60) :
    ansOf (Sq52.House.step h (.number o lo hi l)) = if 10 ^ 18 < cntW h o (sz s) lo hi then [-7] else [((rankP (o == 1) lo hi (Sq52.itemsOf h) 0 (sz s) 0 ps : Nat) : Int), ((sz s : Nat) : Int)] := by
  obtain ⟨gs, hg, e⟩ := found_ok g (fun _ _ n k => ⟨(k : Int), [(n : Int)]⟩) hp ho hps hord hlo hhi hz
  have e' : Sq52.House.step h (.number o lo hi l) = _ := e
  rw [e']
  split <;> rfl
theorem ans_next {h : List Nat} (g : Good h) {o lo hi : Nat} {l : List Nat} {s : List Sq52.Item} {ps : List Nat} (hp : Sq52.pairs l = some s) (ho : o ≤ 1) (hps : placesOf (Sq52.itemsOf h) s = some ps) (hord : inOrd (o == 1) ps = true) (hlo : lo ≤ s.length) (hhi : s.length ≤ hi) (hz : sz s ≤ 60) :
    (10 ^ 18 < cntW h o (sz s) lo hi → ansOf (Sq52.House.step h (.next o lo hi l)) = [-7]) ∧
    (¬ 10 ^ 18 < cntW h o (sz s) lo hi → cntW h o (sz s) lo hi ≤ rankP (o == 1) lo hi (Sq52.itemsOf h) 0 (sz s) 0 ps + 1 → ansOf (Sq52.House.step h (.next o lo hi l)) = [-6]) ∧
    (¬ 10 ^ 18 < cntW h o (sz s) lo hi → rankP (o == 1) lo hi (Sq52.itemsOf h) 0 (sz s) 0 ps + 1 < cntW h o (sz s) lo hi → ∃ t, Pick (o == 1) lo hi (Sq52.itemsOf h) (sz s) 0 (rankP (o == 1) lo hi (Sq52.itemsOf h) 0 (sz s) 0 ps + 1) t ∧
      ansOf (Sq52.House.step h (.next o lo hi l)) = ((rankP (o == 1) lo hi (Sq52.itemsOf h) 0 (sz s) 0 ps + 1 : Nat) : Int) :: Sq52.told t) := by
  obtain ⟨gs, hg, e⟩ := found_ok g (fun is gs n k => match Sq52.make (o == 1) Sq52.FUEL is gs n lo hi (k + 1) with
    | none => Sq52.says (-6)
    | some s => ⟨(k + 1 : Nat), Sq52.told s⟩) hp ho hps hord hlo hhi hz
  have e' : Sq52.House.step h (.next o lo hi l) = _ := e
  obtain ⟨m1, m2⟩ := spec_make (o := o) (lo := lo) (hi := hi) g hg hz (rankP (o == 1) lo hi (Sq52.itemsOf h) 0 (sz s) 0 ps + 1)
  refine ⟨fun c => ?_, fun c c2 => ?_, fun c c2 => ?_⟩
  · rw [e', if_pos c]
    rfl
  · rw [e', if_neg c, m2 c2]
    rfl
  · obtain ⟨t, e1, e2⟩ := m1 c2
    refine ⟨t, e2, ?_⟩
    rw [e', if_neg c, e1]
    rfl
end Ps

set_option Elab.async false
set_option linter.all false
set_option maxRecDepth 100000
set_option maxHeartbeats 4000000
namespace Ps
open PySem PySem.Spec PyProof.Rows L2
/-! size_of -/
abbrev sSizeOf : Stmt := topS 16
theorem scSizeOf : FnScope ["things", "thing"] ["things"] (defScope sSizeOf) := ⟨rfl, rfl, rfl, by decide +kernel, rfl, by decide +kernel, by decide +kernel⟩
def spSizeOf : Sp := fun vs H Q _ => ∃ (t : V) (s : List Sq52.Item), vs = [t] ∧ RowT H t s ∧ s.length ≤ 1024 ∧ ∀ H', Same H H' → Q (vn (sz s)) H'
section
variable {P : Program} {w : World} {K : PySem.W.Frag} {mg : Str → Option Value} {base : Heap}
theorem ok_sizeOf {f : Addr} {fd : FuncData} {k : Nat} (F : Fun K "size_of" "size_of" sSizeOf f fd) (ms : mg "sum" = none) : FnOk P w K mg base CX0 (k + 1) f fd ["things"] spSizeOf := by
  refine F.ok scSizeOf (fun vs H Q E h => ?_) (fun cdv A outer s H vs Q E hr h => ?_)
  · obtain ⟨t, st, rfl, _⟩ := h
    rfl
  · obtain ⟨t, st, rfl, hT, hsl, q⟩ := h
    obtain ⟨ta, tvs, rfl, et, at_⟩ := hT
    have htl := at_.len
    refine ⟨_, pss_one (ps_ret (pe_callB (cr_sum rfl) (by rfl) ms (by decide +kernel) (pa_cons
        (pe_lc (own := [("thing", 1)]) (g := gName 1) (tt := tYes) rfl scSizeOf.nd (pi_list (pv 0))
          (blkOk_by (N := ["things", "thing"]) (sc := defScope sSizeOf) (by decide +kernel)) (fun _ _ _ _ _ => pg_name (i := 1) scSizeOf.nd rfl (.inl rfl)) (fun _ _ _ _ _ => pts_nil)
          (fun _ _ _ _ _ => pe_ix (ixt (K := K)) (pv 1) pe_int (fun _ _ => rfl))) pa_nil))), ?_⟩
    refine ⟨_, rfl, ta, rfl, ⟨_, SqL.of et⟩, fun D nD => ?_⟩
    refine lc_it (walk_list (xs := tvs)) (fun i H' => Same H H' ∧ H' D = some (.lst (((st.take i).map fun x => (x.1 : Int)).map V.int))) ⟨same_upd nD, upd_same⟩ (fun i H' _ ⟨s3, _⟩ => SqL.of (s3 _ _ et)) ?_ ?_
    · rintro i x H3 H4 hi' ⟨s3, e3⟩ ⟨rfl, ev⟩
      obtain ⟨x, ex, xa, rfl, hx⟩ := at_.get' ev
      refine ⟨rfl, yesT ?_⟩
      refine ⟨_, rfl, xa, _, _, _, rfl, rfl, SqT.of (s3 _ _ hx), at_of (j := 0) rfl rfl, _, e3, ?_, same_put s3 nD, ?_⟩
      · rw [List.length_map, List.length_map, List.length_take]
        exact line' (by omega)
      · rw [upd_same, List.take_add_one, ex, List.map_append, List.map_append]
        rfl
    rintro H3 ⟨s3, e3⟩
    rw [htl, List.take_length] at e3
    have esum : (st.map fun x => (x.1 : Int)).sum = ((sz st : Nat) : Int) := by
      have : (st.map fun x => (x.1 : Int)) = (st.map fun x => x.1).map Int.ofNat := by
        rw [List.map_map]
        rfl
      rw [this, sum_cast]
      rfl
    refine ⟨D, _, rfl, SqL.of e3, ?_⟩
    rw [esum]
    exact q _ s3
end
structure Env2 (P : Program) (w : World) (K : PySem.W.Frag) (mg : Str → Option Value) (base : Heap) (k : Nat) : Prop where
  things : ∃ (f : Addr) (fd : FuncData), mg "things_of" = some (.ref f) ∧ PySem.W.keepIn K (.ref f) = true ∧ FnOk P w K mg base CX0 (k + 1) f fd ["numbers"] (spThings K) ∧ Binds K fd ["numbers"] []
  places : ∃ (f : Addr) (fd : FuncData), mg "places_of" = some (.ref f) ∧ PySem.W.keepIn K (.ref f) = true ∧ FnOk P w K mg base CX0 (k + 1) f fd ["row", "things"] spPlaces ∧ Binds K fd ["row", "things"] []
  ord : ∃ (f : Addr) (fd : FuncData), mg "are_in_order" = some (.ref f) ∧ PySem.W.keepIn K (.ref f) = true ∧ FnOk P w K mg base CX0 (k + 1) f fd ["places", "repeats"] spOrd ∧ Binds K fd ["places", "repeats"] []
  size : ∃ (f : Addr) (fd : FuncData), mg "size_of" = some (.ref f) ∧ PySem.W.keepIn K (.ref f) = true ∧ FnOk P w K mg base CX0 (k + 1) f fd ["things"] spSizeOf ∧ Binds K fd ["things"] []
/-! refusal_of_things -/
abbrev sRef : Stmt := topS 57
theorem scRef : FnScope ["row", "repeats", "lo", "hi", "numbers", "things", "places"] ["row", "repeats", "lo", "hi", "numbers"] (defScope sRef) := ⟨rfl, rfl, rfl, by decide +kernel, rfl, by decide +kernel, by decide +kernel⟩
/-- a set that number and next don't refuse before sets are counted -/
structure Fine (h : List Nat) (o lo hi : Nat) (l : List Nat) (s : List Sq52.Item) (ps : List Nat) : Prop where
  pairs : Sq52.pairs l = some s
  once : o ≤ 1
  places : placesOf (Sq52.itemsOf h) s = some ps
  ord : inOrd (o == 1) ps = true
  lo : lo ≤ s.length
  hi : s.length ≤ hi
  size : sz s ≤ 60
def spRef : Sp := fun vs H Q _ => ∃ (r : V) (h : List Nat) (o lo hi : Nat) (a : Addr) (l : List Nat), vs = [r, vn o, vn lo, vn hi, .ref a] ∧ RowT H r (Sq52.itemsOf h) ∧ Good h ∧ H a = some (.lst (vns l)) ∧ l.length ≤ 1024 ∧
  (∀ z : Int, (∀ f, Sq52.House.found h o lo hi l f = (h, Sq52.says z)) → ∀ H', Same H H' → Q (.int z) H') ∧ (∀ s ps, Fine h o lo hi l s ps → ∀ H', Same H H' → Q .non H')
section
variable {P : Program} {w : World} {K : PySem.W.Frag} {mg : Str → Option Value} {base : Heap} {C : Addr} {k : Nat}
theorem ok_ref {f : Addr} {fd : FuncData} (F : Fun K "refusal_of_things" "refusal_of_things" sRef f fd) (T : TxtC mg) (E2 : Env2 P w K mg base k) : FnOk P w K mg base CX0 (k + 2) f fd ["row", "repeats", "lo", "hi", "numbers"] spRef := by
  obtain ⟨t1, g1⟩ := T.nSize
  obtain ⟨t3, g3⟩ := T.rOut
  obtain ⟨t5, g5⟩ := T.rNo
  obtain ⟨fT, fdT, gT, kT, GT, bT⟩ := E2.things
  obtain ⟨fP, fdP, gP, kP, GP, bP⟩ := E2.places
  obtain ⟨fO, fdO, gO, kO, GO, bO⟩ := E2.ord
  obtain ⟨fS, fdS, gS, kS, GS, bS⟩ := E2.size
  refine F.ok scRef (fun vs H Q E h => ?_) (fun cdv A outer s H vs Q E hr h => ?_)
  · obtain ⟨r, h, o, lo, hi, a, l, rfl, _⟩ := h
    rfl
  · obtain ⟨r, h, o, lo, hi, a, l, rfl, hR, hg, ea, hl, qz, qn⟩ := h
    refine ⟨_, pss_cons (ps_if (pt_cmpR op_eq (pe_op op_mod (pe_callB call_len_seq (by rfl) T.len PySem.boot_len (pa_cons (pv 4) pa_nil)) pe_int) pe_int (nomark _))
        (pss_one (ps_ret (pe_glob (v := .int (-3)) rfl g5 ⟨_, rfl⟩))) pss_nil)
      (pss_cons (ps_if (pt_cmpR op_gt (pv 1) pe_int (nomark _))
        (pss_one (ps_ret (pe_glob (v := .int (-1)) rfl g3 ⟨_, rfl⟩))) pss_nil)
      (pss_cons (ps_set (i := 5) scRef.nd rfl (.inl rfl) (pe_call GT hr (by rfl) gT kT bT .nil pass0 (pa_cons (pv 4) pa_nil)))
      (pss_cons (ps_set (i := 6) scRef.nd rfl (.inl rfl) (pe_call GP hr (by rfl) gP kP bP .nil pass0 (pa_cons (pv 0) (pa_cons (pv 5) pa_nil))))
      (pss_cons (ps_if (PW.pt (pw_or (pt_cmpR op_isN (pv 6) pe_non (nomark _)) (pw_or (pt_not (pt_val (pe_call GO hr (by rfl) gO kO bO .nil pass0 (pa_cons (pv 6) (pa_cons (pv 1) pa_nil)))))
          (pw_or (pt_cmpR op_lt (pe_callB call_len_seq (by rfl) T.len PySem.boot_len (pa_cons (pv 6) pa_nil)) (pv 2) (nomark _)) (pw_or1 (pt_cmpR op_gt (pe_callB call_len_seq (by rfl) T.len PySem.boot_len (pa_cons (pv 6) pa_nil)) (pv 3) (nomark _)))))))
        (pss_one (ps_ret (pe_glob (v := .int (-3)) rfl g5 ⟨_, rfl⟩))) pss_nil)
      (pss_cons (ps_if (pt_cmpR op_gt (pe_call GS hr (by rfl) gS kS bS .nil pass0 (pa_cons (pv 5) pa_nil)) (pe_glob (v := .int 60) rfl g1 ⟨_, rfl⟩) (nomark _))
        (pss_one (ps_ret (pe_glob (v := .int (-1)) rfl g3 ⟨_, rfl⟩))) pss_nil)
      (pss_one (ps_ret pe_non))))))), ?_⟩
    refine ⟨_, rfl, a, _, rfl, .inl (SqL.of ea), _, _, rfl, rfl, (by show (0 : Int) < 2; decide), rfl, _, rfl, ?_⟩
    rw [vns_len]
    by_cases c0 : l.length % 2 = 1
    · refine itT (decide_eq_true (by
        have : ((l.length : Nat) : Int) % 2 = 1 := by omega
        exact congrArg V.int this)) ?_
      exact qz _ (fun f => found_left c0) _ (fun _ _ e => e)
    refine itF (decide_eq_false (fun z => c0 (by
      have := V.int.inj z
      omega))) ?_
    obtain ⟨st, hp⟩ : ∃ st, Sq52.pairs l = some st := by
      cases e : Sq52.pairs l with
      | none => exact absurd (pairs_odd.mp e) c0
      | some st => exact ⟨st, rfl⟩
    have hpl := pairs_len hp
    refine ⟨_, rfl, _, _, rfl, rfl, _, rfl, ?_⟩
    by_cases c1 : 1 < o
    · refine itT (decide_eq_true (by omega)) ?_
      exact qz _ (fun f => found_rep hp c1) _ (fun _ _ e => e)
    refine itF (decide_eq_false (by omega)) ?_
    have ho : o ≤ 1 := by omega
    have hrl : (Sq52.itemsOf h).length ≤ 60 := by rw [itemsOf_len]; exact hg.2
    -- things
    refine ⟨_, rfl, a, l, st, rfl, SqL.of ea, hl, hp, fun H1 tv s1 hT => ?_⟩
    have noans : setP (o == 1) (Sq52.itemsOf h) lo hi st = false → ∀ H', Same H H' → Q (.int (-3)) H' := fun c H' sH => qz _ (fun f => found_no hp c1 c) _ sH
    -- places
    refine ⟨_, rfl, _, rfl, r, tv, Sq52.itemsOf h, st, rfl, RowT.same s1 hR, sorted_nodup (row_sorted h), hrl, hT, by omega, fun hno H2 s2 => ?_, fun ps hps H2 pv2 s2 hN => ?_⟩
    · refine ⟨_, rfl, rfl, _, rfl, ?_⟩
      refine itT rfl ?_
      refine iteT (noans ?_ _ (s1.trans s2))
      unfold setP
      rw [hno]
    obtain ⟨pa, rfl, ep⟩ := hN
    have hpsl := placesOf_len hps
    have s12 := s1.trans s2
    refine ⟨_, rfl, rfl, _, rfl, ?_⟩
    refine itF rfl ?_
    refine ⟨_, rfl, _, rfl, pa, ps, (o == 1), by rw [once_of ho] <;> rfl, ep, by omega, _, rfl, ?_⟩
    by_cases c2 : inOrd (o == 1) ps = true
    rotate_left
    · have c2 : inOrd (o == 1) ps = false := by
        rw [Bool.eq_false_iff]
        exact c2
      rw [c2]
      refine iteT (iteT (noans ?_ _ s12))
      unfold setP
      rw [hps]
      dsimp only
      rw [c2]
      rfl
    rw [c2]
    refine iteF ?_
    refine ⟨_, rfl, pa, _, rfl, .inl (SqL.of ep), _, rfl, _, _, rfl, rfl, _, rfl, ?_⟩
    by_cases c3 : lo ≤ st.length
    rotate_left
    · refine itT (decide_eq_true (by rw [vns_len]; omega)) (iteT (noans ?_ _ s12))
      unfold setP
      rw [hps]
      dsimp only
      rw [c2, decide_eq_false c3]
      rfl
    refine itF (decide_eq_false (by rw [vns_len]; omega)) ?_
    refine ⟨_, rfl, pa, _, rfl, .inl (SqL.of ep), _, rfl, _, _, rfl, rfl, _, rfl, ?_⟩
    by_cases c4 : st.length ≤ hi
    rotate_left
    · refine itT (decide_eq_true (by rw [vns_len]; omega)) (noans ?_ _ s12)
      unfold setP
      rw [hps]
      dsimp only
      rw [c2, decide_eq_true c3, decide_eq_false c4]
      rfl
    refine itF (decide_eq_false (by rw [vns_len]; omega)) ?_
    have hset : setP (o == 1) (Sq52.itemsOf h) lo hi st = true := by
      unfold setP
      rw [hps]
      dsimp only
      rw [c2, decide_eq_true c3, decide_eq_true c4]
      rfl
    refine ⟨_, rfl, tv, st, rfl, RowT.same s2 hT, by omega, fun H3 s3 => ?_⟩
    have s13 := s12.trans s3
    refine ⟨_, _, rfl, rfl, _, rfl, ?_⟩
    by_cases c5 : 60 < sz st
    · refine itT (decide_eq_true (by omega)) ?_
      exact qz _ (fun f => found_big hp c1 hset c5) _ s13
    refine itF (decide_eq_false (by omega)) ?_
    exact qn st ps ⟨hp, ho, hps, c2, c3, c4, by omega⟩ _ s13
end
/-! number, next_set -/
abbrev sNumber : Stmt := topS 55
theorem scNumber : FnScope ["row", "repeats", "lo", "hi", "numbers", "refusal", "sets"] ["row", "repeats", "lo", "hi", "numbers"] (defScope sNumber) := ⟨rfl, rfl, rfl, by decide +kernel, rfl, by decide +kernel, by decide +kernel⟩
abbrev sNext : Stmt := topS 56
theorem scNext : FnScope ["row", "repeats", "lo", "hi", "numbers", "refusal", "sets", "following"] ["row", "repeats", "lo", "hi", "numbers"] (defScope sNext) := ⟨rfl, rfl, rfl, by decide +kernel, rfl, by decide +kernel, by decide +kernel⟩
def spNumber : Sp := fun vs H Q _ => ∃ (r : V) (h : List Nat) (o lo hi : Nat) (a : Addr) (l : List Nat), vs = [r, vn o, vn lo, vn hi, .ref a] ∧ RowT H r (Sq52.itemsOf h) ∧ Good h ∧ H a = some (.lst (vns l)) ∧ l.length ≤ 1024 ∧
  ∀ H' p, Same H H' → H p = none → H' p = some (.lst (vis (ansOf (Sq52.House.step h (.number o lo hi l))))) → Q (.ref p) H'
def spNext : Sp := fun vs H Q _ => ∃ (r : V) (h : List Nat) (o lo hi : Nat) (a : Addr) (l : List Nat), vs = [r, vn o, vn lo, vn hi, .ref a] ∧ RowT H r (Sq52.itemsOf h) ∧ Good h ∧ H a = some (.lst (vns l)) ∧ l.length ≤ 1024 ∧
  ∀ H' p, Same H H' → H p = none → H' p = some (.lst (vis (ansOf (Sq52.House.step h (.next o lo hi l))))) → Q (.ref p) H'
section
variable {P : Program} {w : World} {K : PySem.W.Frag} {mg : Str → Option Value} {base : Heap} {C : Addr} {k : Nat}
theorem ok_number {f fR : Addr} {fd fdR : FuncData} (F : Fun K "number" "number" sNumber f fd) (E1 : Env1 P w K mg base C k) (E2 : Env2 P w K mg base k)
    (GR : FnOk P w K mg base CX0 (k + 2) fR fdR ["row", "repeats", "lo", "hi", "numbers"] spRef) (gR : mg "refusal_of_things" = some (.ref fR)) (kR : PySem.W.keepIn K (.ref fR) = true) (bR : Binds K fdR ["row", "repeats", "lo", "hi", "numbers"] []) : FnOk P w K mg base CX0 (k + 5) f fd ["row", "repeats", "lo", "hi", "numbers"] spNumber := by
  obtain ⟨t2, g2⟩ := E1.G.nSets
  obtain ⟨t4, g4⟩ := E1.G.rMany
  obtain ⟨fI, fdI, M, GI, bI⟩ := E1.mkI
  obtain ⟨fH, fdH, mH, GH, bH⟩ := E1.how
  obtain ⟨fN, fdN, mN, GN, bN⟩ := E1.num
  obtain ⟨fT, fdT, gT, kT, GT, bT⟩ := E2.things
  obtain ⟨fP, fdP, gP, kP, GP, bP⟩ := E2.places
  obtain ⟨fS, fdS, gS, kS, GS, bS⟩ := E2.size
  have T := E1.T
  refine F.ok scNumber (fun vs H Q E h => ?_) (fun cdv A outer s H vs Q E hr h => ?_)
  · obtain ⟨r, h, o, lo, hi, a, l, rfl, _⟩ := h
    rfl
  · obtain ⟨r, h, o, lo, hi, a, l, rfl, hR, hg, ea, hl, q⟩ := h
    have hr1 : Room (k + 1) _ := hr.mono (by omega)
    have hr2 : Room (k + 2) _ := hr.mono (by omega)
    refine ⟨_, pss_cons (ps_set (i := 5) scNumber.nd rfl (.inl rfl) (pe_call GR hr2 (by rfl) gR kR bR .nil pass0 (pa_cons (pv 0) (pa_cons (pv 1) (pa_cons (pv 2) (pa_cons (pv 3) (pa_cons (pv 4) pa_nil)))))))
      (pss_cons (ps_if (pt_cmpR op_notN (pv 5) pe_non (nomark _)) (pss_one (ps_ret (pe_lst (pa_cons (pv 5) pa_nil)))) pss_nil)
      (pss_cons (ps_set (i := 6) scNumber.nd rfl (.inl rfl) (pe_make M GI hr rfl T.mgC bI .nil pass0 (pa_cons (pv 0) (pa_cons (pv 1) (pa_cons (pe_call GS hr1 (by rfl) gS kS bS .nil pass0 (pa_cons (pe_call GT hr1 (by rfl) gT kT bT .nil pass0 (pa_cons (pv 4) pa_nil)) pa_nil)) (pa_cons (pv 2) (pa_cons (pv 3) pa_nil)))))))
      (pss_cons (ps_if (pt_cmpR op_gt (pe_meth0 (pv 6) T.cl mH GH hr1 bH .nil pass0) (pe_glob (v := .int 1000000000000000000) rfl g2 ⟨_, rfl⟩) (nomark _))
        (pss_one (ps_ret (pe_lst (pa_cons (pe_glob (v := .int (-7)) rfl g4 ⟨_, rfl⟩) pa_nil)))) pss_nil)
      (pss_one (ps_ret (pe_lst (pa_cons (pe_meth (pv 6) T.cl mN GN hr2 bN .nil pass0 (pa_cons (pe_call GP hr1 (by rfl) gP kP bP .nil pass0 (pa_cons (pv 0) (pa_cons (pe_call GT hr1 (by rfl) gT kT bT .nil pass0 (pa_cons (pv 4) pa_nil)) pa_nil))) pa_nil)) (pa_cons (pe_fld (pv 6) rfl) pa_nil)))))))), ?_⟩
    refine ⟨_, rfl, _, rfl, _, rfl, _, rfl, _, rfl, r, h, o, lo, hi, a, l, rfl, hR, hg, ea, hl, fun z hz H1 s1 => ?_, fun st ps fine H1 s1 => ?_⟩
    · refine ⟨_, rfl, rfl, _, rfl, ?_⟩
      refine itT rfl ?_
      refine ⟨_, rfl, (by show 1 ≤ sizeLine; decide), fun p np => q _ p (s1.trans (same_upd np)) (s1.free np) ?_⟩
      rw [upd_same, step_number, hz]
      rfl
    refine ⟨_, rfl, rfl, _, rfl, ?_⟩
    refine itF rfl ?_
    obtain ⟨hp, ho, hps, c2, c3, c4, hn⟩ := fine
    have hpl := pairs_len hp
    have hrl : (Sq52.itemsOf h).length ≤ 60 := by rw [itemsOf_len]; exact hg.2
    have ec := ans_number hg hp ho hps c2 c3 c4 hn
    obtain ⟨ok1, ok2⟩ := ord_ok (o == 1) st ps 0 hps c2 (fun _ _ => Nat.zero_le _)
    refine ⟨_, rfl, _, rfl, _, rfl, a, l, st, rfl, SqL.of (s1 _ _ ea), hl, hp, fun H2 tv s2 hT => ?_⟩
    refine ⟨tv, st, rfl, hT, by omega, fun H3 s3 => ?_⟩
    have s13 := (s1.trans s2).trans s3
    refine ⟨_, rfl, _, rfl, fun x dx nx nd ne => ?_⟩
    refine ⟨x, dx, r, Sq52.itemsOf h, (o == 1), sz st, lo, hi, by rw [once_of ho] <;> rfl, upd_same, RowT.same (s13.trans (same_made nx nd)) hR, row_pos h, hrl, hn, fun H5 hS kp => ⟨rfl, ?_⟩⟩
    have s5 : Same H3 H5 := Same.made nx nd kp
    have s15 := s13.trans s5
    obtain ⟨a2, dx2, rr, ww, ea0, ea2, _, _⟩ := hS.ex
    cases ea0
    obtain ⟨m1, m2, m3⟩ := sf_meth rr (o == 1) (sz st) ww
    refine ⟨_, rfl, x, dx2, _, rfl, ea2, m1, _, _, _, _, _, _, rfl, hS, _, _, rfl, rfl, _, rfl, ?_⟩
    by_cases c6 : 10 ^ 18 < cntW h o (sz st) lo hi
    · refine itT (decide_eq_true (by show (1000000000000000000 : Int) < ((cntW h o (sz st) lo hi : Nat) : Int); omega)) ?_
      refine ⟨(by show 1 ≤ sizeLine; decide), fun p np => q _ p (s15.trans (same_upd np)) (s15.free np) ?_⟩
      rw [upd_same, ec, if_pos c6]
      rfl
    refine itF (decide_eq_false (by show ¬ (1000000000000000000 : Int) < ((cntW h o (sz st) lo hi : Nat) : Int); omega)) ?_
    refine ⟨_, rfl, x, dx2, _, rfl, ea2, m3, _, rfl, _, rfl, a, l, st, rfl, SqL.of (s15 _ _ ea), hl, hp, fun H6 tv6 s6 hT6 => ?_⟩
    have s16 := s15.trans s6
    refine ⟨r, tv6, Sq52.itemsOf h, st, rfl, RowT.same s16 hR, sorted_nodup (row_sorted h), hrl, hT6, by omega, fun hno => ?_, fun ps' hps' H7 pv2 s7 hN => ?_⟩
    · rw [hps] at hno
      cases hno
    rw [hps] at hps'
    have hps' := Option.some.inj hps'
    subst hps'
    have s57 := s6.trans s7
    refine ⟨.ref x, pv2, Sq52.itemsOf h, (o == 1), sz st, lo, hi, ps, rfl, hS.same s57, row_pos h, hrl, hn, hN, ok1, szP_sz ok2, fun H8 s8 => ?_⟩
    have s58 := s57.trans s8
    refine ⟨_, rfl, x, C, dx2, _, _, rfl, s58 _ _ ea2, T.cl, T.nS, sf_size _ _ _ _, (by show 2 ≤ sizeLine; decide), fun p np => q _ p ((s15.trans s58).trans (same_upd np)) ((s15.trans s58).free np) ?_⟩
    rw [upd_same, ec, if_neg c6]
    rfl
theorem ok_next {f fR : Addr} {fd fdR : FuncData} (F : Fun K "next_set" "next_set" sNext f fd) (E1 : Env1 P w K mg base C k) (E2 : Env2 P w K mg base k) (gL : ∃ t, mg "LAST_SET" = some (.int (-6) t))
    (GR : FnOk P w K mg base CX0 (k + 2) fR fdR ["row", "repeats", "lo", "hi", "numbers"] spRef) (gR : mg "refusal_of_things" = some (.ref fR)) (kR : PySem.W.keepIn K (.ref fR) = true) (bR : Binds K fdR ["row", "repeats", "lo", "hi", "numbers"] []) : FnOk P w K mg base CX0 (k + 5) f fd ["row", "repeats", "lo", "hi", "numbers"] spNext := by
  obtain ⟨t2, g2⟩ := E1.G.nSets
  obtain ⟨t4, g4⟩ := E1.G.rMany
  obtain ⟨t6, g6⟩ := gL
  obtain ⟨fI, fdI, M, GI, bI⟩ := E1.mkI
  obtain ⟨fH, fdH, mH, GH, bH⟩ := E1.how
  obtain ⟨fN, fdN, mN, GN, bN⟩ := E1.num
  obtain ⟨fA, fdA, mA, GA, bA⟩ := E1.at_
  obtain ⟨fD, fdD, gD, kD, GD, bD⟩ := E1.told
  obtain ⟨fT, fdT, gT, kT, GT, bT⟩ := E2.things
  obtain ⟨fP, fdP, gP, kP, GP, bP⟩ := E2.places
  obtain ⟨fS, fdS, gS, kS, GS, bS⟩ := E2.size
  have T := E1.T
  refine F.ok scNext (fun vs H Q E h => ?_) (fun cdv A outer s H vs Q E hr h => ?_)
  · obtain ⟨r, h, o, lo, hi, a, l, rfl, _⟩ := h
    rfl
  · obtain ⟨r, h, o, lo, hi, a, l, rfl, hR, hg, ea, hl, q⟩ := h
    have hr1 : Room (k + 1) _ := hr.mono (by omega)
    have hr2 : Room (k + 2) _ := hr.mono (by omega)
    refine ⟨_, pss_cons (ps_set (i := 5) scNext.nd rfl (.inl rfl) (pe_call GR hr2 (by rfl) gR kR bR .nil pass0 (pa_cons (pv 0) (pa_cons (pv 1) (pa_cons (pv 2) (pa_cons (pv 3) (pa_cons (pv 4) pa_nil)))))))
      (pss_cons (ps_if (pt_cmpR op_notN (pv 5) pe_non (nomark _)) (pss_one (ps_ret (pe_lst (pa_cons (pv 5) pa_nil)))) pss_nil)
      (pss_cons (ps_set (i := 6) scNext.nd rfl (.inl rfl) (pe_make M GI hr rfl T.mgC bI .nil pass0 (pa_cons (pv 0) (pa_cons (pv 1) (pa_cons (pe_call GS hr1 (by rfl) gS kS bS .nil pass0 (pa_cons (pe_call GT hr1 (by rfl) gT kT bT .nil pass0 (pa_cons (pv 4) pa_nil)) pa_nil)) (pa_cons (pv 2) (pa_cons (pv 3) pa_nil)))))))
      (pss_cons (ps_if (pt_cmpR op_gt (pe_meth0 (pv 6) T.cl mH GH hr1 bH .nil pass0) (pe_glob (v := .int 1000000000000000000) rfl g2 ⟨_, rfl⟩) (nomark _))
        (pss_one (ps_ret (pe_lst (pa_cons (pe_glob (v := .int (-7)) rfl g4 ⟨_, rfl⟩) pa_nil)))) pss_nil)
      (pss_cons (ps_set (i := 7) scNext.nd rfl (.inl rfl) (pe_op op_add (pe_meth (pv 6) T.cl mN GN hr2 bN .nil pass0 (pa_cons (pe_call GP hr1 (by rfl) gP kP bP .nil pass0 (pa_cons (pv 0) (pa_cons (pe_call GT hr1 (by rfl) gT kT bT .nil pass0 (pa_cons (pv 4) pa_nil)) pa_nil))) pa_nil)) pe_int))
      (pss_cons (ps_if (pt_cmpR op_eq (pv 7) (pe_meth0 (pv 6) T.cl mH GH hr1 bH .nil pass0) (nomark _))
        (pss_one (ps_ret (pe_lst (pa_cons (pe_glob (v := .int (-6)) rfl g6 ⟨_, rfl⟩) pa_nil)))) pss_nil)
      (pss_one (ps_ret (pe_op op_cat (pe_lst (pa_cons (pv 7) pa_nil)) (pe_call GD hr1 (by rfl) gD kD bD .nil pass0 (pa_cons (pe_meth (pv 6) T.cl mA GA hr2 bA .nil pass0 (pa_cons (pv 7) pa_nil)) pa_nil)))))))))), ?_⟩
    refine ⟨_, rfl, _, rfl, _, rfl, _, rfl, _, rfl, r, h, o, lo, hi, a, l, rfl, hR, hg, ea, hl, fun z hz H1 s1 => ?_, fun st ps fine H1 s1 => ?_⟩
    · refine ⟨_, rfl, rfl, _, rfl, ?_⟩
      refine itT rfl ?_
      refine ⟨_, rfl, (by show 1 ≤ sizeLine; decide), fun p np => q _ p (s1.trans (same_upd np)) (s1.free np) ?_⟩
      rw [upd_same, step_next, hz]
      rfl
    refine ⟨_, rfl, rfl, _, rfl, ?_⟩
    refine itF rfl ?_
    obtain ⟨hp, ho, hps, c2, c3, c4, hn⟩ := fine
    have hpl := pairs_len hp
    have hrl : (Sq52.itemsOf h).length ≤ 60 := by rw [itemsOf_len]; exact hg.2
    obtain ⟨ec1, ec2, ec3⟩ := ans_next hg hp ho hps c2 c3 c4 hn
    obtain ⟨ok1, ok2⟩ := ord_ok (o == 1) st ps 0 hps c2 (fun _ _ => Nat.zero_le _)
    have hlt : rankP (o == 1) lo hi (Sq52.itemsOf h) 0 (sz st) 0 ps < cntW h o (sz st) lo hi := by
      have R := rankP_rank (o == 1) lo hi (sorted_nodup (row_sorted h)) ps 0 (sz st) 0 ok1
      rw [ok2, List.drop_zero] at R
      exact rank_lt _ _ _ R rfl (row_pos h) (by omega) (by omega)
    refine ⟨_, rfl, _, rfl, _, rfl, a, l, st, rfl, SqL.of (s1 _ _ ea), hl, hp, fun H2 tv s2 hT => ?_⟩
    refine ⟨tv, st, rfl, hT, by omega, fun H3 s3 => ?_⟩
    have s13 := (s1.trans s2).trans s3
    refine ⟨_, rfl, _, rfl, fun x dx nx nd ne => ?_⟩
    refine ⟨x, dx, r, Sq52.itemsOf h, (o == 1), sz st, lo, hi, by rw [once_of ho] <;> rfl, upd_same, RowT.same (s13.trans (same_made nx nd)) hR, row_pos h, hrl, hn, fun H5 hS kp => ⟨rfl, ?_⟩⟩
    have s5 : Same H3 H5 := Same.made nx nd kp
    have s15 := s13.trans s5
    obtain ⟨a2, dx2, rr, ww, ea0, ea2, _, _⟩ := hS.ex
    cases ea0
    obtain ⟨m1, m2, m3⟩ := sf_meth rr (o == 1) (sz st) ww
    refine ⟨_, rfl, x, dx2, _, rfl, ea2, m1, _, _, _, _, _, _, rfl, hS, _, _, rfl, rfl, _, rfl, ?_⟩
    by_cases c6 : 10 ^ 18 < cntW h o (sz st) lo hi
    · refine itT (decide_eq_true (by show (1000000000000000000 : Int) < ((cntW h o (sz st) lo hi : Nat) : Int); omega)) ?_
      refine ⟨(by show 1 ≤ sizeLine; decide), fun p np => q _ p (s15.trans (same_upd np)) (s15.free np) ?_⟩
      rw [upd_same, ec1 c6]
      rfl
    refine itF (decide_eq_false (by show ¬ (1000000000000000000 : Int) < ((cntW h o (sz st) lo hi : Nat) : Int); omega)) ?_
    refine ⟨_, rfl, x, dx2, _, rfl, ea2, m3, _, rfl, _, rfl, a, l, st, rfl, SqL.of (s15 _ _ ea), hl, hp, fun H6 tv6 s6 hT6 => ?_⟩
    have s16 := s15.trans s6
    refine ⟨r, tv6, Sq52.itemsOf h, st, rfl, RowT.same s16 hR, sorted_nodup (row_sorted h), hrl, hT6, by omega, fun hno => ?_, fun ps' hps' H7 pv2 s7 hN => ?_⟩
    · rw [hps] at hno
      cases hno
    rw [hps] at hps'
    have hps' := Option.some.inj hps'
    subst hps'
    have s57 := s6.trans s7
    refine ⟨.ref x, pv2, Sq52.itemsOf h, (o == 1), sz st, lo, hi, ps, rfl, hS.same s57, row_pos h, hrl, hn, hN, ok1, szP_sz ok2, fun H8 s8 => ?_⟩
    have s58 := s57.trans s8
    have s18 := s15.trans s58
    have ef : ((rankP (o == 1) lo hi (Sq52.itemsOf h) 0 (sz st) 0 ps : Nat) : Int) + 1 = ((rankP (o == 1) lo hi (Sq52.itemsOf h) 0 (sz st) 0 ps + 1 : Nat) : Int) := by omega
    refine ⟨_, _, rfl, rfl, ?_⟩
    refine ⟨_, rfl, _, rfl, x, dx2, _, rfl, s58 _ _ ea2, m1, _, _, _, _, _, _, rfl, hS.same s58, rfl, _, rfl, ?_⟩
    by_cases c7 : rankP (o == 1) lo hi (Sq52.itemsOf h) 0 (sz st) 0 ps + 1 = cntW h o (sz st) lo hi
    · refine itT (decide_eq_true ?_) ?_
      · refine congrArg V.int ?_
        rw [ef, c7]
        rfl
      refine ⟨(by show 1 ≤ sizeLine; decide), fun p np => q _ p (s18.trans (same_upd np)) (s18.free np) ?_⟩
      rw [upd_same, ec2 c6 (by omega)]
      rfl
    refine itF (decide_eq_false (fun z => c7 ?_)) ?_
    · have z := V.int.inj z
      rw [ef] at z
      exact Int.ofNat.inj z
    obtain ⟨st2, hP, ea3⟩ := ec3 c6 (by omega)
    have hsl := pick_len hP (row_pos h)
    refine ⟨_, rfl, (by show 1 ≤ sizeLine; decide), fun p np => ?_⟩
    have sp := same_upd (o := .lst [V.int (((rankP (o == 1) lo hi (Sq52.itemsOf h) 0 (sz st) 0 ps : Nat) : Int) + 1)]) np
    refine ⟨_, rfl, x, dx2, _, rfl, sp _ _ (s58 _ _ ea2), m2, _, rfl, .ref x, Sq52.itemsOf h, (o == 1), sz st, lo, hi, rankP (o == 1) lo hi (Sq52.itemsOf h) 0 (sz st) 0 ps + 1, st2, (by
      show [V.ref x, V.int (((rankP (o == 1) lo hi (Sq52.itemsOf h) 0 (sz st) 0 ps : Nat) : Int) + 1)] = _
      rw [ef]
      rfl), (hS.same s58).same sp, row_pos h, hn, hP, fun H9 p3 us s9 n3 e3 al3 => ?_⟩
    refine ⟨p3, us, st2, rfl, e3, al3, by omega, fun HA p4 sA n4 e4 => ?_⟩
    refine ⟨p, p4, _, _, rfl, rfl, sA _ _ (s9 _ _ upd_same), e4, ?_, fun p5 n5 => ?_⟩
    · rw [vis_len, told_len]
      exact line (by rw [List.length_singleton]; omega)
    · have sB := ((s18.trans sp).trans s9).trans sA
      refine q _ p5 (sB.trans (same_upd n5)) (sB.free n5) ?_
      rw [upd_same, ea3, ← ef]
      rfl
end
end Ps

set_option Elab.async false
set_option linter.all false
set_option maxRecDepth 100000
set_option maxHeartbeats 4000000
namespace Ps
open PySem PySem.Spec PyProof.Rows L2
/-! ### a written dict with whole numbers as keys -/
def KDctI (K : PySem.W.Frag) (a : Addr) (i : Int) (v : V) : Prop :=
  ∃ es n u, K.lookup a = some ⟨.type "dict", none, .dict es n, #[]⟩ ∧ (∀ e ∈ es.toList, ∃ k t, e.key = .int k t ∧ e.hash = hashInt k) ∧ findBy Value.isInt es i = some u ∧ RelV v u
def rIxDI (K : PySem.W.Frag) : R2 := fun x y H Q => ∃ p i v, x = .ref p ∧ y = .int i ∧ KDctI K p i v ∧ Q v H
theorem ix_kdictI {X : Cx} {K : PySem.W.Frag} (hK : X.K = K := by rfl) : IxR X (rIxDI K) := by
  subst hK
  intro value slice pins s σ H x y v u Q I rx ry h hs
  obtain ⟨p, i, r, rfl, rfl, ⟨es, n, u0, hl, hk, e, ru⟩, q⟩ := h
  obtain rfl : v = Value.ref p := rx
  obtain ⟨t, rfl⟩ := ry
  have hm : s.heap.MapOf (intKind X.prog X.w) p (fun k => findBy Value.isInt es k) := ⟨_, es, n, I.kIn _ _ hl, ⟨rfl, rfl, rfl⟩, rfl, fun e he => by
    obtain ⟨k, t, e1, e2⟩ := hk e (Array.mem_toList_iff.mpr he)
    exact ⟨k, by rw [e1]; exact intKind_is X.prog X.w k t, e2⟩, fun _ => rfl⟩
  exact tail_any hm.typeIs slot_dict_getitem.lookup (wpAny_getItem_of (intKind_is X.prog X.w i t) hm e ⟨r, H, I.tok _, ru, q⟩) hs
def entI (e : DictEntry) : Option (Int × Int) := match e.key, e.val with
  | .int k _, .int v _ => if e.hash = hashInt k then some (k, v) else none
  | _, _ => none
def entsI : List DictEntry → Option (List (Int × Int))
  | [] => some []
  | e :: r => match entI e, entsI r with
    | some x, some l => some (x :: l)
    | _, _ => none
theorem entI_inv {e : DictEntry} {k v : Int} (h : entI e = some (k, v)) : ∃ t u, e.key = .int k t ∧ e.val = .int v u ∧ e.hash = hashInt k := by
  obtain ⟨hs, ky, vl⟩ := e
  cases ky with
  | int k' t' =>
    cases vl with
    | int v' u' =>
      change (if hs = hashInt k' then some (k', v') else none) = some (k, v) at h
      by_cases c : hs = hashInt k'
      · rw [if_pos c] at h
        have h := Option.some.inj h
        have h1 := (Prod.mk.inj h).1
        have h2 := (Prod.mk.inj h).2
        subst h1 h2
        exact ⟨_, _, rfl, rfl, c⟩
      · rw [if_neg c] at h
        cases h
    | _ => cases h
  | _ => cases h
theorem entsI_ok : ∀ {es : List DictEntry} {l : List (Int × Int)}, entsI es = some l → (∀ e ∈ es, ∃ k t, e.key = .int k t ∧ e.hash = hashInt k) ∧ ∀ i v, l.lookup i = some v → ∃ u, (es.find? fun e => Value.isInt i e.key).map (·.val) = some u ∧ ∃ t, u = .int v t
  | [], l, h => by
    have h := Option.some.inj h
    subst h
    exact ⟨fun e he => (by cases he), fun i v q => by cases q⟩
  | e :: r, l, h => by
    change (match entI e, entsI r with | some x, some l => some (x :: l) | _, _ => none) = some l at h
    cases e1 : entI e with
    | none => rw [e1] at h; cases h
    | some x =>
      obtain ⟨k, v⟩ := x
      cases e2 : entsI r with
      | none => rw [e1, e2] at h; cases h
      | some l' =>
        rw [e1, e2] at h
        have h := Option.some.inj h
        subst h
        obtain ⟨t, u, hk, hv, hh⟩ := entI_inv e1
        obtain ⟨ih1, ih2⟩ := entsI_ok e2
        refine ⟨fun e' he => ?_, fun i v' q => ?_⟩
        · rcases List.mem_cons.mp he with z | z
          · rw [z]
            exact ⟨k, t, hk, hh⟩
          · exact ih1 e' z
        · rw [List.find?_cons, hk]
          have hi : Value.isInt i (.int k t) = (i == k) := by
            show (k == i) = (i == k)
            by_cases z : k = i
            · rw [z]
            · rw [beq_eq_false_iff_ne.mpr z, beq_eq_false_iff_ne.mpr (Ne.symm z)]
          rw [hi]
          by_cases c : i = k
          · subst c
            rw [beq_self_eq_true]
            simp only [List.lookup, beq_self_eq_true] at q
            have q := Option.some.inj q
            subst q
            exact ⟨e.val, rfl, u, hv⟩
          · rw [beq_eq_false_iff_ne.mpr c]
            simp only [List.lookup, beq_eq_false_iff_ne.mpr c] at q
            exact ih2 i v' q
theorem kdctI_of {K : PySem.W.Frag} {a : Addr} {es : Array DictEntry} {n : Nat} {l : List (Int × Int)} (hl : K.lookup a = some ⟨.type "dict", none, .dict es n, #[]⟩) (he : entsI es.toList = some l) {i v : Int} (hv : l.lookup i = some v) : KDctI K a i (.int v) := by
  obtain ⟨h1, h2⟩ := entsI_ok he
  obtain ⟨u, hu, t, rfl⟩ := h2 i v hv
  refine ⟨es, n, _, hl, h1, ?_, ⟨t, rfl⟩⟩
  unfold findBy
  obtain ⟨es⟩ := es
  rw [List.find?_toArray]
  exact hu
/-! ### a call's form -/
def opN : Sq52.Call → Nat
  | .begin_ _ => 1
  | .count .. => 2
  | .make .. => 3
  | .number .. => 4
  | .list .. => 5
  | .next .. => 6
  | .turn _ => 7
  | .odd _ => 8
  | .once _ => 9
  | .diagonal _ => 10
def plainN : Sq52.Call → Nat
  | .count .. => 4
  | .make .. => 5
  | .number .. => 3
  | .list .. => 4
  | .next .. => 3
  | _ => 0
def hasRow : Sq52.Call → Bool
  | .count .. => false
  | .make .. => false
  | .list .. => false
  | _ => true
theorem form_head {C : Sq52.Call} {w : List Nat} (h : Form C w) : w[0]? = some (opN C) := by
  cases C <;> (cases h; rfl)
theorem form_plain {C : Sq52.Call} {w : List Nat} (h : Form C w) (hr : hasRow C = false) : w.length = 1 + plainN C := by
  cases C <;> first | (cases h; rfl) | cases hr
theorem form_row {C : Sq52.Call} {w : List Nat} (h : Form C w) (hr : hasRow C = true) : w[1 + plainN C]? = some (rowLen C) ∧ w.length = 1 + plainN C + (1 + rowLen C) := by
  cases C <;> first | (cases h; refine ⟨rfl, ?_⟩; simp only [List.length_cons, plainN, rowLen]; omega) | (exact Bool.noConfusion hr)
abbrev sEnd : Stmt := topS 49
theorem scEnd : FnScope ["calls", "at", "end"] ["calls", "at"] (defScope sEnd) := ⟨rfl, rfl, rfl, by decide +kernel, rfl, by decide +kernel, by decide +kernel⟩
def spEnd (K : PySem.W.Frag) : Sp := fun vs H Q _ => ∃ (a : Addr) (ls pre w rest : List Nat) (C : Sq52.Call), vs = [.ref a, vn pre.length] ∧ SqL K H a (vns ls) ∧ ls = pre ++ (w ++ rest) ∧ Form C w ∧ Q (vn (pre.length + w.length)) H
theorem at_mid {ls pre w rest : List Nat} (h : ls = pre ++ (w ++ rest)) {j x : Nat} (hj : w[j]? = some x) : ls[pre.length + j]? = some x := by
  have hl := (List.getElem?_eq_some_iff.mp hj).1
  rw [h, List.getElem?_append_right (by omega), Nat.add_sub_cancel_left, List.getElem?_append_left hl]
  exact hj
section
variable {P : Program} {w : World} {K : PySem.W.Frag} {mg : Str → Option Value} {base : Heap}
theorem ok_end {f d tp : Addr} {fd : FuncData} {k : Nat} {its : List V} (F : Fun K "end_of_call" "end_of_call" sEnd f fd) (gD : mg "PLAIN_NUMBERS" = some (.ref d)) (gT : mg "CALLS_WITH_LIST" = some (.ref tp))
    (hD : ∀ C : Sq52.Call, KDctI K d (opN C : Int) (vn (plainN C))) (hT : ∀ H : Hp, SqT K H tp its) (hfl : its.all flatV = true) (hI : ∀ C : Sq52.Call, inV (vn (opN C)) its = hasRow C) :
    FnOk P w K mg base CX0 (k + 1) f fd ["calls", "at"] (spEnd K) := by
  refine F.ok scEnd (fun vs H Q E h => ?_) (fun cdv A outer s H vs Q E hr h => ?_)
  · obtain ⟨a, ls, pre, w, rest, C, rfl, _⟩ := h
    rfl
  · obtain ⟨a, ls, pre, w, rest, C, rfl, hS, hls, hF, q⟩ := h
    refine ⟨_, pss_cons (ps_set (i := 2) scEnd.nd rfl (.inl rfl) (pe_op op_add (pe_op op_add (pv 1) pe_int) (pe_ix (ix_kdictI (K := K)) (pe_glob (v := .ref d) rfl gD rfl) (pe_ix (ixl (K := K)) (pv 0) (pv 1) (fun _ _ => rfl)) (fun _ _ => rfl))))
      (pss_cons (ps_if (pt_cmpR op_in_seq (pe_ix (ixl (K := K)) (pv 0) (pv 1) (fun _ _ => rfl)) (pe_glob (v := .ref tp) rfl gT rfl) (by rfl))
        (pss_one (ps_aug (i := 2) scEnd.nd rfl (.inl rfl) (pe_op op_add pe_int (pe_ix (ixl (K := K)) (pv 0) (pv 2) (fun _ _ => rfl))) ip_add)) pss_nil)
      (pss_one (ps_ret (pv 2)))), ?_⟩
    have h0 := at_mid hls (form_head hF)
    refine ⟨_, rfl, _, _, rfl, rfl, _, rfl, _, rfl, a, _, _, _, rfl, rfl, hS, at_of (j := pre.length) rfl (vns_get h0), d, _, _, rfl, rfl, hD C, _, _, rfl, rfl, ?_⟩
    refine ⟨_, rfl, _, rfl, a, _, _, _, rfl, rfl, hS, at_of (j := pre.length) rfl (vns_get h0), tp, its, rfl, .inr (hT H), rfl, hfl, _, rfl, ?_⟩
    have hI' : inV (.int ((opN C : Nat) : Int)) its = hasRow C := hI C
    rw [hI']
    cases hb : hasRow C with
    | false =>
      refine iteF ?_
      have := form_plain hF hb
      rw [this] at q
      refine ⟨_, rfl, ?_⟩
      have e : (pre.length : Int) + 1 + (plainN C : Int) = ((pre.length + (1 + plainN C) : Nat) : Int) := by omega
      show Q (V.int ((pre.length : Int) + 1 + (plainN C : Int))) H
      rw [e]
      exact q
    | true =>
      refine iteT ?_
      obtain ⟨h1, h2⟩ := form_row hF hb
      have h3 := at_mid hls h1
      rw [h2] at q
      have e1 : (pre.length : Int) + 1 + (plainN C : Int) = ((pre.length + (1 + plainN C) : Nat) : Int) := by omega
      refine ⟨_, rfl, _, rfl, _, rfl, a, _, _, _, rfl, rfl, hS, at_of (j := pre.length + (1 + plainN C)) e1 (vns_get h3), _, _, rfl, rfl, _, _, rfl, rfl, ?_⟩
      refine ⟨_, rfl, ?_⟩
      have e : (pre.length : Int) + 1 + (plainN C : Int) + (1 + (rowLen C : Int)) = ((pre.length + (1 + plainN C + (1 + rowLen C)) : Nat) : Int) := by omega
      show Q (V.int ((pre.length : Int) + 1 + (plainN C : Int) + (1 + (rowLen C : Int)))) H
      rw [e]
      exact q
end
end Ps

set_option Elab.async false
set_option linter.all false
set_option maxRecDepth 100000
set_option maxHeartbeats 4000000
namespace Ps
open PySem PySem.Spec PyProof.Rows L2
/-- answer_to: a call and the row of things -/
def spTo : Sp := fun vs H Q _ => ∃ (r : V) (h : List Nat) (ca : Addr) (C : Sq52.Call) (w : List Nat), vs = [r, .ref ca] ∧ RowT H r (Sq52.itemsOf h) ∧ Good h ∧ H ca = some (.lst (vns w)) ∧ Form C w ∧ rowLen C ≤ 1024 ∧
  ∀ H' p, Same H H' → H p = none → H' p = some (.lst (vis (ansOf (Sq52.House.step h C)))) → Q (.ref p) H'
def spAns (K : PySem.W.Frag) : Sp := fun vs H Q _ => ∃ (a : Addr) (ls : List Nat) (cs : List Sq52.Call), vs = [.ref a] ∧ SqL K H a (vns ls) ∧ ls.length ≤ 16000 ∧ Line ls cs ∧ (playC Sq52.fresh cs).length ≤ 10000000 ∧
  ∀ (H' : Hp) (p : Addr), H' p = some (.lst (vis (playC Sq52.fresh cs))) → Q (.ref p) H'
theorem cut_mid {ls pre w rest : List Nat} (h : ls = pre ++ (w ++ rest)) : cutV (vns ls) (some (pre.length : Int)) (some ((pre.length + w.length : Nat) : Int)) = vns w := by
  unfold cutV
  rw [HT.sIx_nat, HT.sIx_nat, vns_len]
  have hl : ls.length = pre.length + (w.length + rest.length) := by rw [h, List.length_append, List.length_append]
  rw [Nat.min_eq_left (by omega), Nat.min_eq_left (by omega), Nat.add_sub_cancel_left, h]
  unfold vns
  rw [List.map_append, List.map_append, ← List.length_map (as := pre) (f := vn), List.drop_left, ← List.length_map (as := w) (f := vn), List.take_left]
theorem cut_two (x y : Nat) (b : List Nat) : cutV (vns (x :: y :: b)) (some 2) none = vns b := by
  unfold cutV
  rw [show HT.sIx (vns (x :: y :: b)).length 0 (some 2) = min 2 (vns (x :: y :: b)).length from HT.sIx_nat _ 0 2, HT.sIx_none]
  rw [vns_len, List.length_cons, List.length_cons, Nat.min_eq_left (by omega)]
  show (vns b).take (b.length + 1 + 1 - 2) = vns b
  exact List.take_of_length_le (by rw [vns_len]; omega)
theorem line_cons {l : List Nat} {cs : List Sq52.Call} (h : Line l cs) (hl : 0 < l.length) : ∃ C w u cs', l = w ++ u ∧ cs = C :: cs' ∧ Form C w ∧ rowLen C ≤ 1024 ∧ Line u cs' := by
  cases h with
  | nil => cases hl
  | cons h1 h2 h3 => exact ⟨_, _, _, _, rfl, rfl, h1, h2, h3⟩
theorem form_pos0 {C : Sq52.Call} {w : List Nat} (h : Form C w) : 0 < w.length := (List.getElem?_eq_some_iff.mp (form_head h)).1
theorem line_nil {l : List Nat} {cs : List Sq52.Call} (h : Line l cs) (hl : l.length = 0) : cs = [] := by
  cases h with
  | nil => rfl
  | cons h1 h2 h3 =>
    have := form_pos0 h1
    rw [List.length_append] at hl
    omega
theorem form_pos {C : Sq52.Call} {w : List Nat} (h : Form C w) : 0 < w.length := (List.getElem?_eq_some_iff.mp (form_head h)).1
theorem begin_state {h b : List Nat} : (0 ≤ (Sq52.House.step h (.begin_ b)).2.value ∧ (Sq52.House.step h (.begin_ b)).1 = b ∧ Good b) ∨ (¬ 0 ≤ (Sq52.House.step h (.begin_ b)).2.value ∧ (Sq52.House.step h (.begin_ b)).1 = h) := by
  show (0 ≤ (if Sq52.SIZE < b.length ∨ Sq52.ITEMS < b.sum then (h, Sq52.says (-1)) else (b, Sq52.says b.sum)).2.value ∧ (if Sq52.SIZE < b.length ∨ Sq52.ITEMS < b.sum then (h, Sq52.says (-1)) else (b, Sq52.says b.sum)).1 = b ∧ Good b) ∨ (¬ 0 ≤ (if Sq52.SIZE < b.length ∨ Sq52.ITEMS < b.sum then (h, Sq52.says (-1)) else (b, Sq52.says b.sum)).2.value ∧ (if Sq52.SIZE < b.length ∨ Sq52.ITEMS < b.sum then (h, Sq52.says (-1)) else (b, Sq52.says b.sum)).1 = h)
  have z1 : Sq52.SIZE = 60 := rfl
  have z2 : Sq52.ITEMS = 60 := rfl
  by_cases c : Sq52.SIZE < b.length ∨ Sq52.ITEMS < b.sum
  · rw [if_pos c]
    exact .inr ⟨(by show ¬ (0 : Int) ≤ -1; decide), rfl⟩
  · rw [if_neg c]
    exact .inl ⟨Int.natCast_nonneg _, rfl, by omega, by omega⟩
theorem state2 (h : List Nat) (C : Sq52.Call) : (∃ b, C = .begin_ b) ∨ (opN C ≠ 1 ∧ (Sq52.House.step h C).1 = h) := by
  rcases step_state h C with e | e
  · exact .inl e
  · cases C with
    | begin_ b => exact .inl ⟨b, rfl⟩
    | _ => exact .inr ⟨Nat.ne_of_beq_eq_false rfl, e⟩
abbrev sAns : Stmt := topS 48
theorem scAns : FnScope ["calls", "row", "told", "at", "end", "call", "answer"] ["calls"] (defScope sAns) := ⟨rfl, rfl, rfl, by decide +kernel, rfl, by decide +kernel, by decide +kernel⟩
theorem rep_ones (n : Nat) : (List.replicate n [V.int 1]).flatten = vns (List.replicate n 1) := by
  induction n with
  | zero => rfl
  | succ n ih => rw [List.replicate_succ, List.flatten_cons, ih, List.replicate_succ]; rfl
/-- a new row stands apart from the list at t -/
theorem row_off {H H' : Hp} {p t : Addr} {vs us : List V} {xs : List Sq52.Item} (ht : H t = some (.lst us)) (s : Same H H') (np : H p = none) (e : H' p = some (.lst vs)) (al : All2 (PairT H') vs xs) : RowT (off H' t) (.ref p) xs :=
  ⟨p, vs, rfl, by rw [off_ne (ne2 ht np)]; exact e, al.mono fun v x ⟨q, eq, hq⟩ => ⟨q, eq, by rw [off_ne (ne_of hq (s _ _ ht) (by intro z; cases z))]; exact hq⟩⟩
section
variable {P : Program} {w : World} {K : PySem.W.Frag} {mg : Str → Option Value} {base : Heap} {k : Nat}
theorem ok_ans {f fR fE fA : Addr} {fd fdR fdE fdA : FuncData} (F : Fun K "answers" "answers" sAns f fd) (T : TxtC mg) (gB : ∃ t, mg "BEGIN" = some (.int 1 t))
    (GR : FnOk P w K mg base CX0 (k + 1) fR fdR ["how_many"] (spRow K)) (gR : mg "row_of" = some (.ref fR)) (kR : PySem.W.keepIn K (.ref fR) = true) (bR : Binds K fdR ["how_many"] [])
    (GE : FnOk P w K mg base CX0 (k + 1) fE fdE ["calls", "at"] (spEnd K)) (gE : mg "end_of_call" = some (.ref fE)) (kE : PySem.W.keepIn K (.ref fE) = true) (bE : Binds K fdE ["calls", "at"] [])
    (GA : FnOk P w K mg base CX0 (k + 6) fA fdA ["row", "call"] spTo) (gA : mg "answer_to" = some (.ref fA)) (kA : PySem.W.keepIn K (.ref fA) = true) (bA : Binds K fdA ["row", "call"] []) :
    FnOk P w K mg base CX0 (k + 7) f fd ["calls"] (spAns K) := by
  obtain ⟨t1, g1⟩ := T.nSizes
  obtain ⟨t2, g2⟩ := gB
  refine F.ok scAns (fun vs H Q E h => ?_) (fun cdv A outer s H vs Q E hr h => ?_)
  · obtain ⟨a, ls, cs, rfl, _⟩ := h
    rfl
  · obtain ⟨a, ls, cs, rfl, hS, hll, hL, hlen, q⟩ := h
    have hr1 : Room (k + 1) _ := hr.mono (by omega)
    refine ⟨_, pss_cons (ps_set (i := 1) scAns.nd rfl (.inl rfl) (pe_call GR hr1 (by rfl) gR kR bR .nil pass0 (pa_cons (pe_op op_rep (pe_lst (pa_cons pe_int pa_nil)) (pe_glob (v := .int 60) rfl g1 ⟨_, rfl⟩)) pa_nil)))
      (pss_cons (ps_set (i := 2) scAns.nd rfl (.inl rfl) (pe_lst pa_nil))
      (pss_cons (ps_set (i := 3) scAns.nd rfl (.inl rfl) pe_int)
      (pss_cons (ps_while PassesOwn.never (pt_cmpR op_lt (pv 3) (pe_callB call_len_seq (by rfl) T.len PySem.boot_len (pa_cons (pv 0) pa_nil)) (nomark _))
        (pss_cons (ps_set (i := 4) scAns.nd rfl (.inl rfl) (pe_call GE hr1 (by rfl) gE kE bE .nil pass0 (pa_cons (pv 0) (pa_cons (pv 3) pa_nil))))
        (pss_cons (ps_set (i := 5) scAns.nd rfl (.inl rfl) (pe_slice sl_list (pv 0) (po_some (pv 3)) (po_some (pv 4))))
        (pss_cons (ps_set (i := 6) scAns.nd rfl (.inl rfl) (pe_call GA hr (by rfl) gA kA bA .nil pass0 (pa_cons (pv 1) (pa_cons (pv 5) pa_nil))))
        (pss_cons (ps_if (PW.pt (pw_and (pt_cmpR op_eq (pe_ix (ixl (K := K)) (pv 5) pe_int (fun _ _ => rfl)) (pe_glob (v := .int 1) rfl g2 ⟨_, rfl⟩) (nomark _)) (pw_and1 (pt_cmpR op_ge (pe_ix (ixl (K := K)) (pv 6) pe_int (fun _ _ => rfl)) pe_int (nomark _)))))
          (pss_one (ps_set (i := 1) scAns.nd rfl (.inl rfl) (pe_call GR hr1 (by rfl) gR kR bR .nil pass0 (pa_cons (pe_slice sl_list (pv 5) (po_some pe_int) po_none) pa_nil)))) pss_nil)
        (pss_cons (ps_expr (pe_bm PySem.F.plainAttrs_list PySem.F.slot_list_append PySem.F.type_list_append mt_append (pv 2) (pa_cons (pe_callB call_len_seq (by rfl) T.len PySem.boot_len (pa_cons (pv 6) pa_nil)) pa_nil)))
        (pss_cons (ps_expr (pe_bm PySem.F.plainAttrs_list PySem.F.slot_list_extend PySem.F.type_list_extend mt_extend (pv 2) (pa_cons (pv 6) pa_nil)))
        (pss_one (ps_set (i := 3) scAns.nd rfl (.inl rfl) (pv 4))))))))))
      (pss_one (ps_ret (pv 2)))))), ?_⟩
    refine ⟨(by show 1 ≤ sizeLine; decide), fun o no => ?_⟩
    have so : Same H (upd H o (.lst [.int 1])) := same_upd no
    refine ⟨o, 60, _, rfl, rfl, upd_same, by decide, by decide, line (by show 1 * 60 ≤ _; decide), fun y ny => ?_⟩
    rw [show (60 : Int).toNat = 60 from rfl, rep_ones]
    have sy := so.trans (same_upd (o := .lst (vns (List.replicate 60 1))) ny)
    refine ⟨y, List.replicate 60 1, rfl, SqL.of upd_same, by decide, fun H1 r0 vs0 s1 n1 e1 al1 => ?_⟩
    have sH1 := sy.trans s1
    refine ⟨Nat.zero_le _, fun t nt => ?_⟩
    have st : Same H1 (upd H1 t (.lst [])) := same_upd nt
    have nt0 : H t = none := sH1.free nt
    refine ⟨fun m σ H' => ∃ (pre rem : List Nat) (cs' : List Sq52.Call) (h : List Nat) (acc : List Int) (r : V) (x4 x5 x6 : Option V), σ = [some (.ref a), some r, some (.ref t), some (vn pre.length), x4, x5, x6] ∧ Same H H' ∧ H' t = some (.lst (vis acc)) ∧ RowT (off H' t) r (Sq52.itemsOf h) ∧ Good h ∧
        ls = pre ++ rem ∧ Line rem cs' ∧ acc ++ playC h cs' = playC Sq52.fresh cs ∧ m = rem.length,
      ⟨_, [], ls, cs, Sq52.fresh, [], .ref r0, none, none, none, rfl, sH1.trans st, upd_same, ?_, good_fresh, rfl, hL, rfl, rfl⟩, ?_⟩
    · have hrow : RowT H1 (.ref r0) (Sq52.itemsOf Sq52.fresh) := ⟨r0, vs0, rfl, e1, al1⟩
      rw [off_upd]
      exact RowT.same (off_base (Same.refl H1) nt) hrow
    rintro m σ H2 ⟨pre, rem, cs', h, acc, r, x4, x5, x6, rfl, s2, e2, hR, hg, hls, hLr, hpl, rfl⟩
    refine ⟨_, rfl, _, rfl, a, _, rfl, .inl (s2.seq hS), _, _, rfl, rfl, _, rfl, ?_⟩
    rw [vns_len]
    have hlsl : ls.length = pre.length + rem.length := by rw [hls, List.length_append]
    by_cases c0 : 0 < rem.length
    · refine itT (decide_eq_true (by omega)) ?_
      obtain ⟨C, wd, u, cs2, rfl, rfl, hF, hrow, hLu⟩ := line_cons hLr c0
      have hwp := form_pos hF
      refine ⟨fun σ' H' => ∃ m', m' < (wd ++ u).length ∧ ∃ (pre rem : List Nat) (cs' : List Sq52.Call) (h : List Nat) (acc : List Int) (r : V) (x4 x5 x6 : Option V), σ' = [some (.ref a), some r, some (.ref t), some (vn pre.length), x4, x5, x6] ∧ Same H H' ∧ H' t = some (.lst (vis acc)) ∧ RowT (off H' t) r (Sq52.itemsOf h) ∧ Good h ∧
        ls = pre ++ rem ∧ Line rem cs' ∧ acc ++ playC h cs' = playC Sq52.fresh cs ∧ m' = rem.length, fun σ' H' h => h, ?_⟩
      -- end
      refine ⟨_, rfl, _, rfl, a, ls, pre, wd, u, C, rfl, s2.seq hS, hls, hF, ?_⟩
      -- call
      refine ⟨_, rfl, _, rfl, _, rfl, _, rfl, _, rfl, a, _, rfl, s2.seq hS, fun ca nca => ?_⟩
      rw [cut_mid hls]
      have sca : Same H2 (upd H2 ca (.lst (vns wd))) := same_upd nca
      have hca : ca ≠ t := ne2 e2 nca
      -- answer
      refine ⟨_, rfl, _, rfl, r, h, ca, C, wd, rfl, RowT.same ((off_same H2 t).trans sca) hR, hg, upd_same, hF, hrow, fun H3 pa s3 npa epa => ?_⟩
      have s23 := sca.trans s3
      have e3 := s23 _ _ e2
      have eca := s3 _ _ upd_same
      have hR3 : RowT (off H3 t) r (Sq52.itemsOf h) := RowT.same (off_mono s23 t) hR
      have hpat : pa ≠ t := ne2 (sca _ _ e2) npa
      have hca0 : (vns wd)[0]? = some (.int ((opN C : Nat) : Int)) := vns_get (form_head hF)
      -- what is left, whatever row there is then
      have last : ∀ (H4 : Hp) (r4 : V) (h4 : List Nat), Same H3 H4 → RowT (off H4 t) r4 (Sq52.itemsOf h4) → Good h4 → h4 = (Sq52.House.step h C).1 →
          tSeq (tDrop (tBM K "list" rAppend (tVar 2) (tCons (tCB (fun xs H Q => ∃ p ys, xs = [V.ref p] ∧ (SqL K H p ys ∨ SqT K H p ys) ∧ Q (V.int ((ys.length : Nat) : Int)) H) (tCons (tVar 6) tNil)) tNil)))
            (tSeq (tDrop (tBM K "list" rExtend (tVar 2) (tCons (tVar 6) tNil))) (tAsg (tVar 4) (gName 3)))
            { nx := fun σ' H' => ∃ m', m' < (wd ++ u).length ∧ ∃ (pre rem : List Nat) (cs' : List Sq52.Call) (h : List Nat) (acc : List Int) (r : V) (x4 x5 x6 : Option V), σ' = [some (.ref a), some r, some (.ref t), some (vn pre.length), x4, x5, x6] ∧ Same H H' ∧ H' t = some (.lst (vis acc)) ∧ RowT (off H' t) r (Sq52.itemsOf h) ∧ Good h ∧
                ls = pre ++ rem ∧ Line rem cs' ∧ acc ++ playC h cs' = playC Sq52.fresh cs ∧ m' = rem.length, rt := Q }
            [some (.ref a), some r4, some (.ref t), some (vn pre.length), some (vn (pre.length + wd.length)), some (.ref ca), some (.ref pa)] H4 := by
        intro H4 r4 h4 s4 hR4 hg4 eh4
        have e4 := s4 _ _ e3
        have ep4 := s4 _ _ epa
        have hacc : (acc ++ playC h (C :: cs2)).length ≤ 10000000 := by
          rw [hpl]
          exact hlen
        have hplay : playC h (C :: cs2) = ((ansOf (Sq52.House.step h C)).length : Int) :: (ansOf (Sq52.House.step h C) ++ playC (Sq52.House.step h C).1 cs2) := rfl
        rw [hplay, List.length_append, List.length_cons, List.length_append] at hacc
        refine ⟨_, rfl, .inl ⟨rfl, _, SqL.of e4⟩, _, rfl, pa, _, rfl, .inl (SqL.of ep4), t, _, _, rfl, rfl, e4, line' (by rw [vis_len]; omega), ?_⟩
        have n4 : H t = none := nt0
        have ep5 : upd H4 t (.lst (vis acc ++ [V.int ((vis (ansOf (Sq52.House.step h C))).length : Int)])) pa = some (.lst (vis (ansOf (Sq52.House.step h C)))) := by
          rw [upd_ne hpat]
          exact ep4
        refine ⟨_, rfl, .inl ⟨rfl, _, SqL.of upd_same⟩, _, rfl, t, pa, _, _, rfl, rfl, upd_same, ep5, line (by rw [List.length_append, vis_len, vis_len, List.length_singleton]; omega), ?_⟩
        refine ⟨_, rfl, u.length, by rw [List.length_append]; omega, pre ++ wd, u, cs2, h4, acc ++ ((ansOf (Sq52.House.step h C)).length : Int) :: ansOf (Sq52.House.step h C), r4, some (vn (pre.length + wd.length)), some (.ref ca), some (.ref pa), ?_, same_put (same_put ((s2.trans s23).trans s4) nt0) nt0, ?_, ?_, hg4, ?_, hLu, ?_, rfl⟩
        · rw [List.length_append]
          rfl
        · rw [upd_same, vis_len, vis_app, List.append_assoc]
          rfl
        · rw [off_upd, off_upd]
          exact hR4
        · rw [hls, List.append_assoc]
        · rw [← hpl, hplay, eh4, List.append_assoc]
          rfl
      refine ⟨_, rfl, ca, _, _, _, rfl, rfl, SqL.of eca, at_of (j := 0) rfl hca0, rfl, _, rfl, ?_⟩
      rcases state2 h C with ⟨b, rfl⟩ | ⟨cb, hst⟩
      · -- begin
        refine itT (decide_eq_true rfl) ?_
        refine ⟨_, rfl, pa, _, _, _, rfl, rfl, SqL.of epa, at_of (j := 0) rfl rfl, _, _, rfl, rfl, _, rfl, ?_⟩
        have hw : wd = 1 :: b.length :: b := hF
        rcases begin_state (h := h) (b := b) with ⟨hv, hs1, hgb⟩ | ⟨hv, hs1⟩
        · refine itT (decide_eq_true hv) ?_
          refine ⟨_, rfl, 2, rfl, ca, _, rfl, SqL.of eca, fun c2 nc2 => ?_⟩
          rw [hw, cut_two]
          have sc2 : Same H3 (upd H3 c2 (.lst (vns b))) := same_upd nc2
          refine ⟨c2, b, rfl, SqL.of upd_same, hgb.2, fun H4 r4 vs4 s4 n4 e4 al4 => ?_⟩
          have hw' := hw
          rw [hw'] at last
          exact last H4 (.ref r4) b (sc2.trans s4) (row_off (sc2 _ _ e3) s4 n4 e4 al4) hgb hs1.symm
        · refine itF (decide_eq_false hv) ?_
          exact last H3 r h (Same.refl _) hR3 hg hs1.symm
      · refine itF (decide_eq_false (fun z => cb (by
          have := V.int.inj z
          omega))) ?_
        refine iteF ?_
        exact last H3 r h (Same.refl _) hR3 hg hst.symm
    · have e0 : rem = [] := List.eq_nil_of_length_eq_zero (by omega)
      subst e0
      have ecs := line_nil hLr rfl
      subst ecs
      refine itF (decide_eq_false (by omega)) ?_
      refine ⟨_, rfl, q H2 t ?_⟩
      rw [← hpl]
      show H2 t = some (.lst (vis (acc ++ [])))
      rw [List.append_nil]
      exact e2
end
end Ps

set_option Elab.async false
set_option linter.all false
set_option maxRecDepth 100000
set_option maxHeartbeats 4000000
/-! x *= y, x //= y, max(xs, default=d): rules of my own over the library's. -/
namespace Ps
open PySem PySem.Spec PyProof.Rows L2
section
variable {X : Cx}
def ipC (C : Int → Int → Prop) (f : Int → Int → Int) : TIp := fun x y H Q => ∃ i j, x = .int i ∧ y = .int j ∧ C i j ∧ Q (.int (f i j)) H
theorem ip_mul : PIp X .Mult (ipC CMul fun i j => i * j) := by
  intro pins s σ H x y v u Q I r1 r2 h
  obtain ⟨i, j, e1, e2, c, q⟩ := h
  subst e1
  subst e2
  obtain ⟨t, rfl⟩ := r1
  obtain ⟨t', rfl⟩ := r2
  exact imul_int ⟨.int _, H, I.tok _, ⟨_, rfl⟩, q⟩ c.ok
theorem ip_fdiv : PIp X .FloorDiv (ipC CDiv fun i j => i / j) := by
  intro pins s σ H x y v u Q I r1 r2 h
  obtain ⟨i, j, e1, e2, c, q⟩ := h
  subst e1
  subst e2
  obtain ⟨t, rfl⟩ := r1
  obtain ⟨t', rfl⟩ := r2
  have h1 : (0 : Int) < j := c.1
  have h2 : j < 1073741824 := c.2
  refine ifloordiv_int (by omega) ?_ (.inl (PyProof.noPylong_small (by omega)))
  rw [Int.fdiv_eq_ediv_of_nonneg i (by omega)]
  exact ⟨.int _, H, I.tok _, ⟨_, rfl⟩, q⟩
theorem foldl_max : ∀ (ns : List Int) (n : Int), ns.foldl max n ∈ n :: ns ∧ ∀ y ∈ n :: ns, y ≤ ns.foldl max n
  | [], n => ⟨List.mem_cons_self .., fun y hy => by
    rw [List.mem_singleton.mp hy]
    exact Int.le_refl _⟩
  | m :: ns, n => by
    obtain ⟨h1, h2⟩ := foldl_max ns (max n m)
    rw [List.foldl_cons]
    have hm : max n m ≤ ns.foldl max (max n m) := h2 _ (List.mem_cons_self ..)
    refine ⟨?_, fun y hy => ?_⟩
    · rcases List.mem_cons.mp h1 with e | e
      · rw [e]
        by_cases c : n ≤ m
        · rw [show max n m = m by omega]
          exact List.mem_cons_of_mem _ (List.mem_cons_self ..)
        · rw [show max n m = n by omega]
          exact List.mem_cons_self ..
      · exact List.mem_cons_of_mem _ (List.mem_cons_of_mem _ e)
    · rcases List.mem_cons.mp hy with e | e
      · omega
      · rcases List.mem_cons.mp e with e | e
        · omega
        · exact h2 y (List.mem_cons_of_mem _ e)
def rMaxD0 (K : PySem.W.Frag) : List V → List V → Hp → VK → Prop := fun vs zs H Q => ∃ (a : Addr) (ns : List Int) (d : Int), vs = [V.ref a] ∧ zs = [.int d] ∧ SqL K H a (ns.map V.int) ∧ (∀ y, y ∈ ns → d ≤ y) ∧ Q (.int (ns.foldl max d)) H
theorem depth_ints : ∀ ns : List Int, PyData.depthAll (ns.map PyData.int) = 0
  | [] => rfl
  | n :: ns => by
    have := depth_ints ns
    show Nat.max (PyData.int n).depth (PyData.depthAll (ns.map PyData.int)) = 0
    rw [this]
    rfl
theorem alike_ints (ns : List Int) : PySem.W.AlikeAll (ns.map PyData.int) := by
  refine ⟨fun x hx y hy => ?_, fun x hx => ?_⟩
  · obtain ⟨i, _, rfl⟩ := List.mem_map.mp hx
    obtain ⟨j, _, rfl⟩ := List.mem_map.mp hy
    rfl
  · obtain ⟨i, _, rfl⟩ := List.mem_map.mp hx
    intro z
    cases z
theorem cr_maxDef (hc : X.calm = true) (hu : X.A.units + 1 < cLine) : CallRK X (.builtin "max") [Str.ofString "default"] (rMaxD0 X.K) := by
  intro pins s σ H vs zs us ws Q I r rz h
  obtain ⟨a, ns, d, rfl, rfl, hs, q0, q⟩ := h
  obtain rfl := Vals.ref1 r
  obtain ⟨w1, rfl, e1⟩ := vals1 rz
  obtain ⟨its, rv, hl, _⟩ := I.list hs
  have hi := rv.ints
  have hr : ReadsAll s.heap its.toArray.toList (ns.map PyData.int) [] := ints_readAll s.heap hi
  refine PySem.W.max_list_default (I.ok.hd hc) hl.isList hr (alike_ints ns) (by rw [depth_ints]; exact hu) (fun e h' tk hk => ?_) (fun y ys i v h' tk bs e hv hR hk => ?_)
  · have e := List.map_eq_nil_iff.mp e
    subst e
    exact ⟨.int d, H, I.kept hk, e1, q⟩
  · cases ns with
    | nil => cases e
    | cons n ns =>
      rw [List.map_cons] at e
      injection e with e2 e3
      subst e2
      subst e3
      rw [PySem.W.maxD_ints] at hR
      have hd := q0 n (List.mem_cons_self ..)
      rw [List.foldl_cons, show max d n = n by omega] at q
      cases hR with
      | int i t => exact ⟨.int _, H, I.kept hk, ⟨_, rfl⟩, q⟩
/-- the greatest part of a partition, or 0 -/
theorem max_head {l : List Nat} (d : Desc l) : (l.map Int.ofNat).foldl max 0 = ((l.headD 0 : Nat) : Int) := by
  obtain ⟨h1, h2⟩ := foldl_max (l.map Int.ofNat) 0
  have hle : ∀ y ∈ (0 : Int) :: l.map Int.ofNat, y ≤ ((l.headD 0 : Nat) : Int) := fun y hy => by
    rcases List.mem_cons.mp hy with e | e
    · rw [e]
      exact Int.natCast_nonneg _
    · obtain ⟨a, ha, rfl⟩ := List.mem_map.mp e
      obtain ⟨j, hj, ej⟩ := List.getElem_of_mem ha
      have := head_ge d (show l[j]? = some a by rw [List.getElem?_eq_getElem hj, ej])
      show (a : Int) ≤ _
      omega
  have h3 := hle _ h1
  have h4 : ((l.headD 0 : Nat) : Int) ≤ (l.map Int.ofNat).foldl max 0 := by
    cases l with
    | nil => exact Int.le_refl _
    | cons a r => exact h2 _ (List.mem_cons_of_mem _ (List.mem_cons_self ..))
  omega
/-- what sorted(.., reverse=True) gives -/
theorem sorted_nat {m : List Nat} {ns : List Int} (p : ns.Perm (m.map Int.ofNat)) (o : OrdB true ns) : ns = (Sq52.sorted m).map Int.ofNat := by
  have o : ns.Pairwise (· ≥ ·) := o
  refine (p.trans ((sorted_perm m).map Int.ofNat).symm).eq_of_pairwise (le := fun a b => b ≤ a) (fun a b _ _ x y => by omega) o ?_
  exact List.pairwise_map.mpr ((sorted_desc m).imp fun h => Int.ofNat_le.mpr h)
end
end Ps

set_option Elab.async false
set_option linter.all false
set_option maxRecDepth 100000
set_option maxHeartbeats 4000000
/-! partitions.py: is_partition, has_equal_parts, has_even_part, how_many_reach, square_of -/
namespace Ps
open PySem PySem.Spec PyProof.Rows L2
abbrev sIsP : Stmt := topS 2
theorem scIsP : FnScope ["parts", "at", "part"] ["parts"] (defScope sIsP) := ⟨rfl, rfl, rfl, by decide +kernel, rfl, by decide +kernel, by decide +kernel⟩
def spIsP : Sp := fun vs H Q _ => ∃ (a : Addr) (l : List Nat), vs = [.ref a] ∧ H a = some (.lst (vns l)) ∧ l.length ≤ 1024 ∧ ∀ H', Same H H' → Q (.bl (isP l)) H'
section
variable {P : Program} {w : World} {K : PySem.W.Frag} {mg : Str → Option Value} {base : Heap}
theorem ok_isP {f : Addr} {fd : FuncData} {k : Nat} (F : Fun K "is_partition" "is_partition" sIsP f fd) (ms : mg "sum" = none) (me : mg "enumerate" = none) (gM : ∃ t, mg "MOST_TOGETHER" = some (.int 60 t)) : FnOk P w K mg base CX0 (k + 1) f fd ["parts"] spIsP := by
  obtain ⟨t1, g1⟩ := gM
  refine F.ok scIsP (fun vs H Q E h => ?_) (fun cdv A outer s H vs Q E hr h => ?_)
  · obtain ⟨a, l, rfl, _⟩ := h
    rfl
  · obtain ⟨a, l, rfl, ea, hl, q⟩ := h
    refine ⟨_, pss_cons (ps_if (pt_cmpR op_gt (pe_callB (cr_sum rfl) (by rfl) ms (by decide +kernel) (pa_cons (pv 0) pa_nil)) (pe_glob (v := .int 60) rfl g1 ⟨_, rfl⟩) (nomark _)) (pss_one (ps_ret pe_bl)) pss_nil)
      (pss_cons (ps_for PassesOwn.never rfl (pi_enum (by rfl) me (pa_cons (pv 0) pa_nil))
          (pg_tup rfl (pgs_cons (pg_name (i := 1) scIsP.nd rfl (.inl rfl)) (pgs_cons (pg_name (i := 2) scIsP.nd rfl (.inl rfl)) pgs_nil)))
        (pss_cons (ps_if (pt_cmpR op_lt (pv 2) pe_int (nomark _)) (pss_one (ps_ret pe_bl)) pss_nil)
        (pss_one (ps_if (PW.pt (pw_and (pt_cmpR op_gt (pv 1) pe_int (nomark _)) (pw_and1 (pt_cmpR op_gt (pv 2) (pe_ix (ixl (K := K)) (pv 0) (pe_op op_sub (pv 1) pe_int) (fun _ _ => rfl)) (nomark _))))) (pss_one (ps_ret pe_bl)) pss_nil))))
      (pss_one (ps_ret pe_bl))), ?_⟩
    have eS : SqL K H a ((l.map Int.ofNat).map V.int) := by
      rw [← vns_vis]
      exact SqL.of ea
    refine ⟨_, rfl, a, _, rfl, eS, _, _, rfl, rfl, _, rfl, ?_⟩
    rw [sum_cast]
    have no : ¬ (((∀ a ∈ l, 0 < a) ∧ Desc l) ∧ l.sum ≤ 60) → isP l = false := fun c => by
      rw [Bool.eq_false_iff]
      exact fun z => c ((isP_iff l).mp z)
    by_cases c1 : 60 < l.sum
    · refine itT (decide_eq_true (by omega)) ?_
      have := q H (fun _ _ e => e)
      rw [no (fun z => by omega)] at this
      exact this
    refine itF (decide_eq_false (by omega)) ?_
    refine ⟨.ref a, rfl, a, _, rfl, SqL.of ea, for_it (walk_enum (xs := vns l)) (fun i σ H' => ∃ x1 x2, σ = [some (.ref a), x1, x2] ∧ Same H H' ∧ (∀ j x, j < i → l[j]? = some x → 0 < x) ∧ ∀ j x y, j + 1 < i → l[j]? = some x → l[j + 1]? = some y → y ≤ x)
      ⟨none, none, rfl, fun _ _ e => e, fun j x h => absurd h (by omega), fun j x y h => absurd h (by omega)⟩ (fun i σ H' _ ⟨_, _, _, s2, _⟩ => SqL.of (s2 _ _ ea)) ?_ ?_⟩
    · rintro i x σ H2 H3 hi ⟨x1, x2, rfl, s2, h1, h2⟩ ⟨T, v1, v2, rfl, nT, rfl, ev1, ev2⟩
      have e1 := (Option.some.inj ev1).symm
      subst e1
      obtain ⟨n, en, rfl⟩ := vns_of ev2
      have sT : Same H2 (upd H2 T (.tup [.int (i : Nat), .int (n : Int)])) := same_upd nT
      have s3 := s2.trans sT
      refine ⟨T, _, rfl, SqT.of upd_same, rfl, _, _, rfl, _, _, rfl, rfl, ?_⟩
      refine ⟨_, rfl, _, _, rfl, rfl, _, rfl, ?_⟩
      by_cases c2 : 0 < n
      rotate_left
      · refine itT (decide_eq_true (by omega)) ?_
        have := q _ s3
        rw [no (fun z => c2 (z.1.1 n (List.mem_of_getElem? en)))] at this
        exact this
      refine itF (decide_eq_false (by omega)) ?_
      refine ⟨_, rfl, _, _, rfl, rfl, _, rfl, ?_⟩
      have pos' : ∀ j x, j < i + 1 → l[j]? = some x → 0 < x := fun j x hj hx => by
        by_cases e : j < i
        · exact h1 j x e hx
        · have : j = i := by omega
          subst this
          rw [en] at hx
          have := Option.some.inj hx
          omega
      by_cases c3 : 0 < i
      rotate_left
      · refine itF (decide_eq_false (by omega)) ?_
        refine iteF ?_
        exact ⟨_, _, rfl, s3, pos', fun j x y hj => absurd hj (by omega)⟩
      refine itT (decide_eq_true (by omega)) ?_
      have hl' := (List.getElem?_eq_some_iff.mp en).1
      have gm : l[i - 1]? = some l[i - 1] := List.getElem?_eq_getElem (by omega)
      refine ⟨_, rfl, _, rfl, _, rfl, _, _, rfl, rfl, a, _, _, _, rfl, rfl, SqL.of (s3 _ _ ea), at_of (j := i - 1) (by omega) (vns_get gm), _, _, rfl, rfl, _, rfl, ?_⟩
      by_cases c4 : n ≤ l[i - 1]
      · refine itF (decide_eq_false (by omega)) ?_
        refine ⟨_, _, rfl, s3, pos', fun j x y hj hx hy => ?_⟩
        by_cases e : j + 1 < i
        · exact h2 j x y e hx hy
        · have : j = i - 1 := by omega
          subst this
          rw [gm] at hx
          rw [show i - 1 + 1 = i by omega, en] at hy
          have := Option.some.inj hx
          have := Option.some.inj hy
          omega
      · refine itT (decide_eq_true (by omega)) ?_
        have := q _ s3
        rw [no (fun z => c4 (desc_get z.1.2 (by omega) gm en))] at this
        exact this
    · rintro σ H2 ⟨x1, x2, rfl, s2, h1, h2⟩
      rw [vns_len] at h1 h2
      have := q _ s2
      rw [(isP_iff l).mpr ⟨⟨fun x hx => ?_, near_desc l fun i x y hx hy => h2 i x y (List.getElem?_eq_some_iff.mp hy).1 hx hy⟩, by omega⟩] at this
      · exact this
      · obtain ⟨j, hj, ej⟩ := List.getElem_of_mem hx
        exact h1 j x hj (by rw [List.getElem?_eq_getElem hj, ej])
end
abbrev sEq : Stmt := topS 3
theorem scEq : FnScope ["parts", "at"] ["parts"] (defScope sEq) := ⟨rfl, rfl, rfl, by decide +kernel, rfl, by decide +kernel, by decide +kernel⟩
def spEq : Sp := fun vs H Q _ => ∃ (a : Addr) (l : List Nat), vs = [.ref a] ∧ H a = some (.lst (vns l)) ∧ l.length ≤ 1024 ∧ Desc l ∧ Q (.bl (!Sq52.different l)) H
section
variable {P : Program} {w : World} {K : PySem.W.Frag} {mg : Str → Option Value} {base : Heap}
theorem ok_eq {f : Addr} {fd : FuncData} {k : Nat} (F : Fun K "has_equal_parts" "has_equal_parts" sEq f fd) (ml : mg "len" = none) (mr : mg "range" = none) : FnOk P w K mg base CX0 (k + 1) f fd ["parts"] spEq := by
  refine F.ok scEq (fun vs H Q E h => ?_) (fun cdv A outer s H vs Q E hr h => ?_)
  · obtain ⟨p, ps, rfl, _⟩ := h
    rfl
  · obtain ⟨p, ps, rfl, ep, hl, hd, q⟩ := h
    refine ⟨_, pss_cons (ps_for PassesOwn.never rfl (pi_range2 (by rfl) mr (pa_cons pe_int (pa_cons (pe_callB call_len_seq (by rfl) ml PySem.boot_len (pa_cons (pv 0) pa_nil)) pa_nil))) (pg_name (i := 1) scEq.nd rfl (.inl rfl))
        (pss_one (ps_if (pt_cmpR op_eq (pe_ix ix_list (pv 0) (pv 1) (fun _ _ => rfl)) (pe_ix ix_list (pv 0) (pe_op op_sub (pv 1) pe_int) (fun _ _ => rfl)) (nomark _)) (pss_one (ps_ret pe_bl)) pss_nil)))
      (pss_one (ps_ret pe_bl)), ?_⟩
    refine ⟨_, rfl, p, _, rfl, .inl (SqL.of ep), 1, _, rfl, ⟨by decide, by decide, by omega, ?_⟩, ?_⟩
    · rw [vns_len]
      omega
    rw [vns_len]
    refine for_it (walk_range (lo := 1) (n := ((ps.length : Int) - 1).toNat)) (fun i σ H' => ∃ x1, σ = [some (.ref p), x1] ∧ H' = H ∧ ∀ j a b, j < i → ps[j]? = some a → ps[j + 1]? = some b → b < a)
      ⟨none, rfl, rfl, fun j a b h => absurd h (by omega)⟩ (fun _ _ _ _ _ => trivial) ?_ ?_
    · rintro i x σ H2 H3 hi ⟨x2, rfl, rfl, hj⟩ ⟨rfl, rfl⟩
      have h1 : i + 1 < ps.length := by omega
      have g1 : ps[i]? = some ps[i] := List.getElem?_eq_getElem (by omega)
      have g2 : ps[i + 1]? = some ps[i + 1] := List.getElem?_eq_getElem h1
      refine ⟨_, rfl, _, rfl, p, _, _, _, rfl, rfl, SqL.of ep, at_of (j := i + 1) (by omega) (vns_get g2), _, rfl, _, rfl, _, _, rfl, rfl, p, _, _, _, rfl, rfl, SqL.of ep, at_of (j := i) (by omega) (vns_get g1), rfl, _, rfl, ?_⟩
      have hle := desc_get hd (by omega : i ≤ i + 1) g1 g2
      by_cases c : ps[i + 1] = ps[i]
      · refine itT (decide_eq_true (by rw [c])) ?_
        have : Sq52.different ps = false := by
          rw [Bool.eq_false_iff]
          intro z
          have := diff_near z g1 g2
          omega
        rw [this] at q
        exact q
      · refine itF (decide_eq_false (fun z => c (by
          have := V.int.inj z
          omega))) ?_
        refine ⟨_, rfl, rfl, fun j a b hji ha hb => ?_⟩
        by_cases e : j < i
        · exact hj j a b e ha hb
        · have : j = i := by omega
          subst this
          rw [g1] at ha
          rw [g2] at hb
          have ha := Option.some.inj ha
          have hb := Option.some.inj hb
          subst ha hb
          omega
    · rintro σ H2 ⟨x2, rfl, rfl, hj⟩
      have : Sq52.different ps = true := near_diff ps fun j a b ha hb => hj j a b (by
        have := (List.getElem?_eq_some_iff.mp hb).1
        omega) ha hb
      rw [this] at q
      exact q
end
abbrev sEven : Stmt := topS 4
theorem scEven : FnScope ["parts", "part"] ["parts"] (defScope sEven) := ⟨rfl, rfl, rfl, by decide +kernel, rfl, by decide +kernel, by decide +kernel⟩
def spEven : Sp := fun vs H Q _ => ∃ (a : Addr) (l : List Nat), vs = [.ref a] ∧ H a = some (.lst (vns l)) ∧ l.length ≤ 1024 ∧ ∀ H', Same H H' → Q (.bl (!Sq52.allOdd l)) H'
theorem even_any (l : List Nat) : (l.map fun a : Nat => decide (V.int ((a : Int) % 2) = V.int 0)).any id = !Sq52.allOdd l := by
  induction l with
  | nil => rfl
  | cons a l ih =>
    unfold Sq52.allOdd at ih ⊢
    rw [List.map_cons, List.any_cons, ih, List.all_cons, Bool.not_and]
    congr 1
    show decide (V.int ((a : Int) % 2) = V.int 0) = !(a % 2 == 1)
    by_cases c : a % 2 = 1
    · rw [decide_eq_false (fun z => by
        have := V.int.inj z
        omega), beq_iff_eq.mpr c]
      rfl
    · rw [decide_eq_true (congrArg V.int (by omega)), beq_eq_false_iff_ne.mpr c]
      rfl
section
variable {P : Program} {w : World} {K : PySem.W.Frag} {mg : Str → Option Value} {base : Heap}
theorem ok_even {f : Addr} {fd : FuncData} {k : Nat} (F : Fun K "has_even_part" "has_even_part" sEven f fd) (ma : mg "any" = none) : FnOk P w K mg base CX0 (k + 1) f fd ["parts"] spEven := by
  refine F.ok scEven (fun vs H Q E h => ?_) (fun cdv A outer s H vs Q E hr h => ?_)
  · obtain ⟨a, l, rfl, _⟩ := h
    rfl
  · obtain ⟨a, l, rfl, ea, hl, q⟩ := h
    refine ⟨_, pss_one (ps_ret (pe_callB (cr_any rfl) (by rfl) ma (by decide +kernel) (pa_cons
        (pe_lc (own := [("part", 1)]) (g := gName 1) (tt := tYes) rfl scEven.nd (pi_list (pv 0))
          (blkOk_by (N := ["parts", "part"]) (sc := defScope sEven) (by decide +kernel)) (fun _ _ _ _ _ => pg_name (i := 1) scEven.nd rfl (.inl rfl)) (fun _ _ _ _ _ => pts_nil)
          (fun _ _ _ _ _ => pe_cmpR op_eq (pe_op op_mod (pv 1) pe_int) pe_int (nomark _))) pa_nil))), ?_⟩
    refine ⟨_, rfl, a, rfl, ⟨_, SqL.of ea⟩, fun D nD => ?_⟩
    refine lc_it (walk_list (xs := vns l)) (fun i H' => Same H H' ∧ H' D = some (.lst (((l.take i).map fun a : Nat => decide (V.int ((a : Int) % 2) = V.int 0)).map V.bl))) ⟨same_upd nD, upd_same⟩ (fun i H' _ ⟨s3, _⟩ => SqL.of (s3 _ _ ea)) ?_ ?_
    · rintro i x H3 H4 hi' ⟨s3, e3⟩ ⟨rfl, ev⟩
      obtain ⟨n, en, rfl⟩ := vns_of ev
      refine ⟨rfl, yesT ?_⟩
      refine ⟨_, rfl, _, _, rfl, rfl, (by show (0 : Int) < 2; decide), rfl, _, e3, ?_, same_put s3 nD, ?_⟩
      · rw [List.length_map, List.length_map, List.length_take]
        exact line' (by omega)
      · rw [upd_same, List.take_add_one, en, List.map_append, List.map_append]
        rfl
    rintro H3 ⟨s3, e3⟩
    rw [vns_len, List.take_length] at e3
    refine ⟨D, _, rfl, SqL.of e3, ?_⟩
    rw [even_any]
    exact q _ s3
end
abbrev sReach : Stmt := topS 6
theorem scReach : FnScope ["parts", "least", "part"] ["parts", "least"] (defScope sReach) := ⟨rfl, rfl, rfl, by decide +kernel, rfl, by decide +kernel, by decide +kernel⟩
def spReach : Sp := fun vs H Q _ => ∃ (a : Addr) (l : List Nat) (n : Nat), vs = [.ref a, vn n] ∧ H a = some (.lst (vns l)) ∧ l.length ≤ 1024 ∧ ∀ H', Same H H' → Q (vn (reach l n)) H'
section
variable {P : Program} {w : World} {K : PySem.W.Frag} {mg : Str → Option Value} {base : Heap}
theorem ok_reach {f : Addr} {fd : FuncData} {k : Nat} (F : Fun K "how_many_reach" "how_many_reach" sReach f fd) (ml : mg "len" = none) : FnOk P w K mg base CX0 (k + 1) f fd ["parts", "least"] spReach := by
  refine F.ok scReach (fun vs H Q E h => ?_) (fun cdv A outer s H vs Q E hr h => ?_)
  · obtain ⟨a, l, n, rfl, _⟩ := h
    rfl
  · obtain ⟨a, l, n, rfl, ea, hl, q⟩ := h
    refine ⟨_, pss_one (ps_ret (pe_callB call_len_seq (by rfl) ml PySem.boot_len (pa_cons
        (pe_lc (own := [("part", 2)]) (g := gName 2) rfl scReach.nd (pi_list (pv 0))
          (blkOk_by (N := ["parts", "least", "part"]) (sc := defScope sReach) (by decide +kernel)) (fun _ _ _ _ _ => pg_name (i := 2) scReach.nd rfl (.inl rfl)) (fun _ _ _ _ _ => pts_one (pt_cmpR op_ge (pv 2) (pv 1) (nomark _)))
          (fun _ _ _ _ _ => pv 2)) pa_nil))), ?_⟩
    refine ⟨_, rfl, a, rfl, ⟨_, SqL.of ea⟩, fun D nD => ?_⟩
    refine lc_it (walk_list (xs := vns l)) (fun i H' => Same H H' ∧ H' D = some (.lst (vns ((l.take i).filter fun a => decide (n ≤ a))))) ⟨same_upd nD, upd_same⟩ (fun i H' _ ⟨s3, _⟩ => SqL.of (s3 _ _ ea)) ?_ ?_
    · rintro i x H3 H4 hi' ⟨s3, e3⟩ ⟨rfl, ev⟩
      obtain ⟨m, en, rfl⟩ := vns_of ev
      refine ⟨rfl, ?_⟩
      refine ⟨_, rfl, _, rfl, _, _, rfl, rfl, _, rfl, ?_⟩
      have et : (l.take (i + 1)).filter (fun a => decide (n ≤ a)) = (l.take i).filter (fun a => decide (n ≤ a)) ++ (if n ≤ m then [m] else []) := by
        rw [List.take_add_one, en, List.filter_append]
        congr 1
        show List.filter _ [m] = _
        by_cases c : n ≤ m
        · rw [if_pos c, List.filter_cons_of_pos (by simpa using c)]
          rfl
        · rw [if_neg c, List.filter_cons_of_neg (by simpa using c)]
          rfl
      by_cases c : n ≤ m
      · refine itT (decide_eq_true (by omega)) ?_
        refine ⟨_, rfl, _, e3, ?_, same_put s3 nD, ?_⟩
        · have := List.length_filter_le (fun a => decide (n ≤ a)) (l.take i)
          rw [List.length_take] at this
          rw [vns_len]
          exact line' (by omega)
        · rw [upd_same, et, if_pos c]
          unfold vns
          rw [List.map_append]
          rfl
      · refine itF (decide_eq_false (by omega)) ⟨s3, ?_⟩
        rw [et, if_neg c, List.append_nil]
        exact e3
    rintro H3 ⟨s3, e3⟩
    rw [vns_len, List.take_length] at e3
    refine ⟨D, _, rfl, .inl (SqL.of e3), ?_⟩
    rw [vns_len]
    exact q _ s3
end
abbrev sSqr : Stmt := topS 7
theorem scSqr : FnScope ["parts", "at", "part"] ["parts"] (defScope sSqr) := ⟨rfl, rfl, rfl, by decide +kernel, rfl, by decide +kernel, by decide +kernel⟩
def spSqr : Sp := fun vs H Q _ => ∃ (a : Addr) (l : List Nat), vs = [.ref a] ∧ H a = some (.lst (vns l)) ∧ l.length ≤ 1024 ∧ ∀ H', Same H H' → Q (vn (Sq52.square l)) H'
section
variable {P : Program} {w : World} {K : PySem.W.Frag} {mg : Str → Option Value} {base : Heap}
theorem ok_sqr {f : Addr} {fd : FuncData} {k : Nat} (F : Fun K "square_of" "square_of" sSqr f fd) (ml : mg "len" = none) (me : mg "enumerate" = none) : FnOk P w K mg base CX0 (k + 1) f fd ["parts"] spSqr := by
  refine F.ok scSqr (fun vs H Q E h => ?_) (fun cdv A outer s H vs Q E hr h => ?_)
  · obtain ⟨a, l, rfl, _⟩ := h
    rfl
  · obtain ⟨a, l, rfl, ea, hl, q⟩ := h
    refine ⟨_, pss_one (ps_ret (pe_callB call_len_seq (by rfl) ml PySem.boot_len (pa_cons
        (pe_lc (own := [("at", 1), ("part", 2)]) (g := gTup K 2 (gCons (gName 1) (gCons (gName 2) gNil))) rfl scSqr.nd (pi_enum (by rfl) me (pa_cons (pv 0) pa_nil))
          (blkOk_by (N := ["parts", "at", "part"]) (sc := defScope sSqr) (by decide +kernel)) (fun _ _ _ _ _ => pg_tup rfl (pgs_cons (pg_name (i := 1) scSqr.nd rfl (.inl rfl) (.inr rfl)) (pgs_cons (pg_name (i := 2) scSqr.nd rfl (.inl rfl) (.inr rfl)) pgs_nil))) (fun _ _ _ _ _ => pts_one (pt_cmpR op_ge (pv 2) (pe_op op_add (pv 1) pe_int) (nomark _)))
          (fun _ _ _ _ _ => pv 2)) pa_nil))), ?_⟩
    refine ⟨_, rfl, a, _, rfl, SqL.of ea, fun D nD => ?_⟩
    refine lc_it (walk_enum (xs := vns l)) (fun i H' => Same H H' ∧ H' D = some (.lst (vns ((sqr l i).map Prod.snd)))) ⟨same_upd nD, upd_same⟩ (fun i H' _ ⟨s3, _⟩ => SqL.of (s3 _ _ ea)) ?_ ?_
    · rintro i x H3 H4 hi' ⟨s3, e3⟩ ⟨T, v1, v2, rfl, nT, rfl, ev1, ev2⟩
      have e1 := (Option.some.inj ev1).symm
      subst e1
      obtain ⟨n, en, rfl⟩ := vns_of ev2
      have sT : Same H3 (upd H3 T (.tup [.int (i : Nat), .int (n : Int)])) := same_upd nT
      have s4 := s3.trans sT
      have e4 := sT _ _ e3
      refine ⟨T, _, rfl, SqT.of upd_same, rfl, _, _, rfl, _, _, rfl, rfl, rfl, ?_⟩
      refine ⟨_, rfl, _, rfl, _, _, rfl, rfl, _, _, rfl, rfl, _, rfl, ?_⟩
      have et := sqr_step en
      by_cases c : i < n
      · refine itT (decide_eq_true (by omega)) ?_
        refine ⟨_, rfl, _, e4, ?_, same_put s4 nD, ?_⟩
        · have := sqr_len l i
          rw [vns_len] at hi'
          rw [vns_len, List.length_map]
          exact line' (by omega)
        · rw [upd_same, et, if_pos c]
          unfold vns
          rw [List.map_append, List.map_append]
          rfl
      · refine itF (decide_eq_false (by omega)) ⟨s4, ?_⟩
        rw [et, if_neg c, List.append_nil]
        exact e4
    rintro H3 ⟨s3, e3⟩
    rw [vns_len] at e3
    refine ⟨D, _, rfl, .inl (SqL.of e3), ?_⟩
    rw [vns_len, List.length_map, ← square_eq]
    exact q _ s3
end
end Ps

set_option Elab.async false
set_option linter.all false
set_option maxRecDepth 100000
set_option maxHeartbeats 4000000
/-! partitions.py: odd_number_in, powers_in, turned_about, diagonal_of, to_odd_parts -/
namespace Ps
open PySem PySem.Spec PyProof.Rows L2
structure IsPart (l : List Nat) : Prop where
  pos : ∀ a ∈ l, 0 < a
  desc : Desc l
  sum : l.sum ≤ 60
theorem isPart_of {l : List Nat} (h : isP l = true) : IsPart l := by
  have := (isP_iff l).mp h
  exact ⟨this.1.1, this.1.2, this.2⟩
theorem IsPart.len {l : List Nat} (h : IsPart l) : l.length ≤ 60 := Nat.le_trans (len_le_sum l h.pos) h.sum
theorem IsPart.mem {l : List Nat} (h : IsPart l) {a : Nat} (ha : a ∈ l) : a ≤ 60 := Nat.le_trans (mem_le_sum l a ha) h.sum
theorem IsPart.head {l : List Nat} (h : IsPart l) : l.headD 0 ≤ 60 := by
  cases l with
  | nil => exact Nat.zero_le _
  | cons a r => exact h.mem (List.mem_cons_self ..)
abbrev sOddIn : Stmt := topS 10
theorem scOddIn : FnScope ["part", "odd"] ["part"] (defScope sOddIn) := ⟨rfl, rfl, rfl, by decide +kernel, rfl, by decide +kernel, by decide +kernel⟩
def spOddIn : Sp := fun vs H Q _ => ∃ (a : Nat), vs = [vn a] ∧ 0 < a ∧ a ≤ 60 ∧ Q (vn (Sq52.oddPart a a)) H
section
variable {P : Program} {w : World} {K : PySem.W.Frag} {mg : Str → Option Value} {base : Heap}
theorem ok_oddIn {f : Addr} {fd : FuncData} {k : Nat} (F : Fun K "odd_number_in" "odd_number_in" sOddIn f fd) : FnOk P w K mg base CX0 (k + 1) f fd ["part"] spOddIn := by
  refine F.ok scOddIn (fun vs H Q E h => ?_) (fun cdv A outer s H vs Q E hr h => ?_)
  · obtain ⟨a, rfl, _⟩ := h
    rfl
  · obtain ⟨a, rfl, h0, h1, q⟩ := h
    refine ⟨_, pss_cons (ps_set (i := 1) scOddIn.nd rfl (.inl rfl) (pv 0))
      (pss_cons (ps_while PassesOwn.never (pt_cmpR op_eq (pe_op op_mod (pv 1) pe_int) pe_int (nomark _))
        (pss_one (ps_aug (i := 1) scOddIn.nd rfl (.inl rfl) pe_int ip_fdiv)))
      (pss_one (ps_ret (pv 1)))), ?_⟩
    refine ⟨_, rfl, ?_⟩
    refine ⟨fun m σ H' => ∃ b : Nat, σ = [some (vn a), some (vn b)] ∧ H' = H ∧ 0 < b ∧ b ≤ 60 ∧ Sq52.oddPart b b = Sq52.oddPart a a ∧ m = b, ⟨_, a, rfl, rfl, h0, h1, rfl, rfl⟩, ?_⟩
    rintro m σ H2 ⟨b, rfl, rfl, b0, b1, eb, rfl⟩
    refine ⟨_, rfl, _, _, rfl, rfl, (by show (0 : Int) < 2; decide), rfl, _, rfl, ?_⟩
    by_cases c : m % 2 = 0
    · refine itT (decide_eq_true (congrArg V.int (by omega))) ?_
      refine ⟨fun σ' H' => ∃ m', m' < m ∧ ∃ b : Nat, σ' = [some (vn a), some (vn b)] ∧ H' = H2 ∧ 0 < b ∧ b ≤ 60 ∧ Sq52.oddPart b b = Sq52.oddPart a a ∧ m' = b, fun σ' H' h => h, ?_⟩
      refine ⟨_, rfl, _, _, rfl, rfl, ⟨by decide, by decide⟩, ?_⟩
      refine ⟨m / 2, by omega, m / 2, ?_, rfl, by omega, by omega, ?_, rfl⟩
      · show [some (vn a), some (V.int ((m : Int) / 2))] = _
        rw [show (m : Int) / 2 = ((m / 2 : Nat) : Int) by omega]
        rfl
      · rw [← oddPart_half b0 c (Nat.le_refl _)]
        exact eb
    · refine itF (decide_eq_false (fun z => c (by
        have := V.int.inj z
        omega))) ?_
      refine ⟨_, rfl, ?_⟩
      have := oddPart_odd (a := m) (by omega)
      rw [this] at eb
      rw [eb]
      exact q
end
abbrev sPow : Stmt := topS 12
theorem scPow : FnScope ["many", "powers", "power"] ["many"] (defScope sPow) := ⟨rfl, rfl, rfl, by decide +kernel, rfl, by decide +kernel, by decide +kernel⟩
def spPow : Sp := fun vs H Q _ => ∃ (n : Nat), vs = [vn n] ∧ n ≤ 60 ∧ ∀ H' p, Same H H' → H p = none → H' p = some (.lst (vns (Sq52.powers 10 0 n))) → Q (.ref p) H'
theorem pow_small {k : Nat} (h : 2 ^ k ≤ 60) : k < 6 := by
  by_cases c : k < 6
  · exact c
  · have := Nat.pow_le_pow_right (n := 2) (by decide) (show 6 ≤ k by omega)
    omega
section
variable {P : Program} {w : World} {K : PySem.W.Frag} {mg : Str → Option Value} {base : Heap}
theorem ok_pow {f : Addr} {fd : FuncData} {k : Nat} (F : Fun K "powers_in" "powers_in" sPow f fd) : FnOk P w K mg base CX0 (k + 1) f fd ["many"] spPow := by
  refine F.ok scPow (fun vs H Q E h => ?_) (fun cdv A outer s H vs Q E hr h => ?_)
  · obtain ⟨n, rfl, _⟩ := h
    rfl
  · obtain ⟨n, rfl, hn, q⟩ := h
    refine ⟨_, pss_cons (ps_set (i := 1) scPow.nd rfl (.inl rfl) (pe_lst pa_nil))
      (pss_cons (ps_set (i := 2) scPow.nd rfl (.inl rfl) pe_int)
      (pss_cons (ps_while PassesOwn.never (pt_cmpR op_le (pv 2) (pv 0) (nomark _))
        (pss_cons (ps_if (pt_cmpR op_eq (pe_op op_mod (pe_op op_fdiv (pv 0) (pv 2)) pe_int) pe_int (nomark _))
          (pss_one (ps_expr (pe_bm PySem.F.plainAttrs_list PySem.F.slot_list_append PySem.F.type_list_append mt_append (pv 1) (pa_cons (pv 2) pa_nil)))) pss_nil)
        (pss_one (ps_aug (i := 2) scPow.nd rfl (.inl rfl) pe_int ip_mul))))
      (pss_one (ps_ret (pv 1))))), ?_⟩
    refine ⟨Nat.zero_le _, fun p np => ?_⟩
    have s1 : Same H (upd H p (.lst [])) := same_upd np
    refine ⟨fun m σ H' => ∃ (k : Nat) (made : List Nat), σ = [some (vn n), some (.ref p), some (vn (2 ^ k))] ∧ Same H H' ∧ H' p = some (.lst (vns made)) ∧ made ++ Sq52.powers (10 - k) k (n / 2 ^ k) = Sq52.powers 10 0 n ∧ made.length ≤ k ∧ k ≤ 6 ∧ m = n + 1 - 2 ^ k,
      ⟨_, 0, [], rfl, s1, upd_same, by rw [Nat.pow_zero, Nat.div_one]; rfl, Nat.le_refl _, by omega, rfl⟩, ?_⟩
    rintro m σ H2 ⟨k, made, rfl, s2, e2, em, hk, hk6, rfl⟩
    refine ⟨_, rfl, _, rfl, _, _, rfl, rfl, _, rfl, ?_⟩
    by_cases c : 2 ^ k ≤ n
    · refine itT (decide_eq_true (Int.ofNat_le.mpr c)) ?_
      have k6 := pow_small (Nat.le_trans c hn)
      have hp : 0 < 2 ^ k := Nat.pow_pos (by decide)
      have hdp : 0 < n / 2 ^ k := Nat.div_pos c hp
      have hpw : 2 ^ (k + 1) = 2 ^ k * 2 := Nat.pow_succ ..
      have es : Sq52.powers (10 - k) k (n / 2 ^ k) = (if n / 2 ^ k % 2 = 1 then [2 ^ k] else []) ++ Sq52.powers (10 - (k + 1)) (k + 1) (n / 2 ^ (k + 1)) := by
        rw [show 10 - k = 10 - (k + 1) + 1 by omega, powers_step _ _ _ hdp, Nat.div_div_eq_div_mul, hpw]
      refine ⟨fun σ' H' => ∃ m', m' < n + 1 - 2 ^ k ∧ ∃ (k : Nat) (made : List Nat), σ' = [some (vn n), some (.ref p), some (vn (2 ^ k))] ∧ Same H H' ∧ H' p = some (.lst (vns made)) ∧ made ++ Sq52.powers (10 - k) k (n / 2 ^ k) = Sq52.powers 10 0 n ∧ made.length ≤ k ∧ k ≤ 6 ∧ m' = n + 1 - 2 ^ k, fun σ' H' h => h, ?_⟩
      refine ⟨_, rfl, _, rfl, _, _, rfl, rfl, ⟨by show (0 : Int) < ((2 ^ k : Nat) : Int); omega, by show ((2 ^ k : Nat) : Int) < 1073741824; omega⟩, _, _, rfl, rfl, (by show (0 : Int) < 2; decide), rfl, _, rfl, ?_⟩
      have ed : (n : Int) / ((2 ^ k : Nat) : Int) = ((n / 2 ^ k : Nat) : Int) := (Int.natCast_ediv ..).symm
      have em2 : V.int (((2 ^ k : Nat) : Int) * 2) = vn (2 ^ (k + 1)) := by
        rw [hpw]
        unfold vn
        rw [Int.natCast_mul]
        rfl
      have cm : CMul ((2 ^ k : Nat) : Int) 2 := .inr ⟨by decide, by decide⟩
      by_cases c2 : n / 2 ^ k % 2 = 1
      · refine itT (decide_eq_true (congrArg V.int (by rw [ed]; omega))) ?_
        refine ⟨_, rfl, .inl ⟨rfl, _, SqL.of e2⟩, _, rfl, p, _, _, rfl, rfl, e2, ?_, ?_⟩
        · rw [vns_len]
          exact line' (by omega)
        refine ⟨_, rfl, _, _, rfl, rfl, cm, ?_⟩
        refine ⟨n + 1 - 2 ^ (k + 1), by omega, k + 1, made ++ [2 ^ k], ?_, same_put s2 np, ?_, ?_, ?_, by omega, rfl⟩
        · exact congrArg (fun z => [some (vn n), some (V.ref p), some z]) em2
        · rw [upd_same]
          unfold vns
          rw [List.map_append]
          rfl
        · rw [es, if_pos c2] at em
          rw [← em, List.append_assoc]
        · rw [List.length_append]
          simp only [List.length_cons, List.length_nil]
          omega
      · refine itF (decide_eq_false (fun z => c2 (by
          have := V.int.inj z
          rw [ed] at this
          omega))) ?_
        refine ⟨_, rfl, _, _, rfl, rfl, cm, ?_⟩
        refine ⟨n + 1 - 2 ^ (k + 1), by omega, k + 1, made, ?_, s2, e2, ?_, by omega, by omega, rfl⟩
        · exact congrArg (fun z => [some (vn n), some (V.ref p), some z]) em2
        · rw [es, if_neg c2] at em
          exact em
    · refine itF (decide_eq_false (fun z => c (Int.ofNat_le.mp z))) ?_
      refine ⟨_, rfl, q _ p s2 np ?_⟩
      rw [Nat.div_eq_of_lt (by omega), powers_zero, List.append_nil] at em
      rw [← em]
      exact e2
end
abbrev sTurn : Stmt := topS 5
theorem scTurn : FnScope ["parts", "greatest", "least"] ["parts"] (defScope sTurn) := ⟨rfl, rfl, rfl, by decide +kernel, rfl, by decide +kernel, by decide +kernel⟩
def spTurn : Sp := fun vs H Q _ => ∃ (a : Addr) (l : List Nat), vs = [.ref a] ∧ H a = some (.lst (vns l)) ∧ IsPart l ∧ ∀ H' p, Same H H' → H p = none → H' p = some (.lst (vns (Sq52.turned l))) → Q (.ref p) H'
section
variable {P : Program} {w : World} {K : PySem.W.Frag} {mg : Str → Option Value} {base : Heap}
theorem ok_turn {f fR : Addr} {fd fdR : FuncData} {k : Nat} (F : Fun K "turned_about" "turned_about" sTurn f fd) (mm : mg "max" = none) (mr : mg "range" = none)
    (GR : FnOk P w K mg base CX0 (k + 1) fR fdR ["parts", "least"] spReach) (gR : mg "how_many_reach" = some (.ref fR)) (kR : PySem.W.keepIn K (.ref fR) = true) (bR : Binds K fdR ["parts", "least"] []) : FnOk P w K mg base CX0 (k + 2) f fd ["parts"] spTurn := by
  refine F.ok scTurn (fun vs H Q E h => ?_) (fun cdv A outer s H vs Q E hr h => ?_)
  · obtain ⟨a, l, rfl, _⟩ := h
    rfl
  · obtain ⟨a, l, rfl, ea, hP, q⟩ := h
    have hu := hu_of hr
    refine ⟨_, pss_cons (ps_set (i := 1) scTurn.nd rfl (.inl rfl) (pe_callBK (cr_maxDef rfl hu) (by rfl) mm (by decide +kernel) (pa_cons (pv 0) pa_nil) (pk_cons pe_int pk_nil)))
      (pss_one (ps_ret (pe_lc (own := [("least", 2)]) (g := gName 2) (tt := tYes) rfl scTurn.nd (pi_range2 (by rfl) mr (pa_cons pe_int (pa_cons (pe_op op_add (pv 1) pe_int) pa_nil)))
        (blkOk_by (N := ["parts", "greatest", "least"]) (sc := defScope sTurn) (by decide +kernel)) (fun _ _ _ _ _ => pg_name (i := 2) scTurn.nd rfl (.inl rfl)) (fun _ _ _ _ _ => pts_nil)
        (fun _ _ _ _ _ => pe_call GR hr (by rfl) gR kR bR .nil pass0 (pa_cons (pv 0) (pa_cons (pv 2) pa_nil)))))), ?_⟩
    have eS : SqL K H a ((l.map Int.ofNat).map V.int) := by
      rw [← vns_vis]
      exact SqL.of ea
    refine ⟨_, rfl, a, _, 0, rfl, rfl, eS, fun y hy => ?_, ?_⟩
    · obtain ⟨n, _, rfl⟩ := List.mem_map.mp hy
      exact Int.natCast_nonneg _
    rw [max_head hP.desc]
    have hh := hP.head
    have hl := hP.len
    refine ⟨_, rfl, _, _, rfl, rfl, 1, _, rfl, ⟨by decide, by decide, by omega, by omega⟩, fun D nD => ?_⟩
    rw [show (((l.headD 0 : Nat) : Int) + 1 - 1).toNat = l.headD 0 by omega]
    refine lc_it (walk_range (lo := 1) (n := l.headD 0)) (fun i H' => Same H H' ∧ H' D = some (.lst (vns ((List.range i).map fun i => reach l (i + 1))))) ⟨same_upd nD, upd_same⟩ (fun _ _ _ _ => trivial) ?_ ?_
    · rintro i x H3 H4 hi' ⟨s3, e3⟩ ⟨rfl, rfl⟩
      refine ⟨rfl, yesT ?_⟩
      refine ⟨_, rfl, _, rfl, a, l, i + 1, ?_, s3 _ _ ea, by omega, fun H5 s5 => ?_⟩
      · show [V.ref a, V.int (1 + (i : Int))] = _
        rw [show (1 : Int) + (i : Int) = ((i + 1 : Nat) : Int) by omega]
        rfl
      refine ⟨_, s5 _ _ e3, ?_, same_put (s3.trans s5) nD, ?_⟩
      · rw [vns_len, List.length_map, List.length_range]
        exact line' (by omega)
      · rw [upd_same, List.range_succ, List.map_append]
        unfold vns
        rw [List.map_append]
        rfl
    rintro H3 ⟨s3, e3⟩
    exact q _ D s3 nD e3
end
abbrev sDiag : Stmt := topS 8
theorem scDiag : FnScope ["parts", "turned", "diagonal", "at"] ["parts"] (defScope sDiag) := ⟨rfl, rfl, rfl, by decide +kernel, rfl, by decide +kernel, by decide +kernel⟩
def spDiag : Sp := fun vs H Q _ => ∃ (a : Addr) (l : List Nat), vs = [.ref a] ∧ H a = some (.lst (vns l)) ∧ IsPart l ∧ ∀ H' p, Same H H' → H p = none → H' p = some (.lst (vis (dg l (Sq52.square l)))) → Q (.ref p) H'
section
variable {P : Program} {w : World} {K : PySem.W.Frag} {mg : Str → Option Value} {base : Heap}
theorem ok_diag {f fT fS : Addr} {fd fdT fdS : FuncData} {k : Nat} (F : Fun K "diagonal_of" "diagonal_of" sDiag f fd) (mr : mg "range" = none)
    (GT : FnOk P w K mg base CX0 (k + 2) fT fdT ["parts"] spTurn) (gT : mg "turned_about" = some (.ref fT)) (kT : PySem.W.keepIn K (.ref fT) = true) (bT : Binds K fdT ["parts"] [])
    (GS : FnOk P w K mg base CX0 (k + 1) fS fdS ["parts"] spSqr) (gS : mg "square_of" = some (.ref fS)) (kS : PySem.W.keepIn K (.ref fS) = true) (bS : Binds K fdS ["parts"] []) : FnOk P w K mg base CX0 (k + 3) f fd ["parts"] spDiag := by
  refine F.ok scDiag (fun vs H Q E h => ?_) (fun cdv A outer s H vs Q E hr h => ?_)
  · obtain ⟨a, l, rfl, _⟩ := h
    rfl
  · obtain ⟨a, l, rfl, ea, hP, q⟩ := h
    have hr1 : Room (k + 1) _ := hr.mono (by omega)
    refine ⟨_, pss_cons (ps_set (i := 1) scDiag.nd rfl (.inl rfl) (pe_call GT hr (by rfl) gT kT bT .nil pass0 (pa_cons (pv 0) pa_nil)))
      (pss_cons (ps_set (i := 2) scDiag.nd rfl (.inl rfl) (pe_lst pa_nil))
      (pss_cons (ps_for PassesOwn.never rfl (pi_range1 rfl mr (pa_cons (pe_call GS hr1 (by rfl) gS kS bS .nil pass0 (pa_cons (pv 0) pa_nil)) pa_nil)) (pg_name (i := 3) scDiag.nd rfl (.inl rfl))
        (pss_cons (ps_expr (pe_bm PySem.F.plainAttrs_list PySem.F.slot_list_append PySem.F.type_list_append mt_append (pv 2) (pa_cons (pe_op op_sub (pe_ix (ixl (K := K)) (pv 0) (pv 3) (fun _ _ => rfl)) (pe_op op_add (pv 3) pe_int)) pa_nil)))
        (pss_one (ps_expr (pe_bm PySem.F.plainAttrs_list PySem.F.slot_list_append PySem.F.type_list_append mt_append (pv 2) (pa_cons (pe_op op_sub (pe_ix (ixl (K := K)) (pv 1) (pv 3) (fun _ _ => rfl)) (pe_op op_add (pv 3) pe_int)) pa_nil))))))
      (pss_one (ps_ret (pv 2))))), ?_⟩
    have hl := hP.len
    have hh := hP.head
    have hsq := square_le l
    refine ⟨_, rfl, a, l, rfl, ea, hP, fun H1 t s1 n1 et => ?_⟩
    refine ⟨Nat.zero_le _, fun p np => ?_⟩
    have s2 : Same H1 (upd H1 p (.lst [])) := same_upd np
    refine ⟨_, rfl, a, l, rfl, s2 _ _ (s1 _ _ ea), by omega, fun H2 s3 => ?_⟩
    refine ⟨_, rfl, (by show -(2 ^ 62) ≤ ((Sq52.square l : Nat) : Int); omega), (by show ((Sq52.square l : Nat) : Int) < 2 ^ 62; omega), ?_⟩
    rw [show ((Sq52.square l : Nat) : Int).toNat = Sq52.square l from rfl]
    refine for_it (walk_range (lo := 0) (n := Sq52.square l)) (fun i σ H' => ∃ x3, σ = [some (.ref a), some (.ref t), some (.ref p), x3] ∧ Same H1 H' ∧ H' p = some (.lst (vis (dg l i))))
      ⟨none, rfl, s2.trans s3, s3 _ _ upd_same⟩ (fun _ _ _ _ _ => trivial) ?_ ?_
    · rintro i v σ H3 H4 hi ⟨x3, rfl, s4, e4⟩ ⟨rfl, rfl⟩
      obtain ⟨b, eb, hb⟩ := square_at hP.desc hi
      have hbh := head_ge hP.desc eb
      have et' := turned_get (l := l) (i := i) (by omega)
      have hrg := reach_ge hP.desc eb hb
      have hdl := dg_len l i
      have eat : H4 a = some (.lst (vns l)) := s4 _ _ (s1 _ _ ea)
      have ett : H4 t = some (.lst (vns (Sq52.turned l))) := s4 _ _ et
      refine ⟨_, rfl, .inl ⟨rfl, _, SqL.of e4⟩, _, rfl, _, rfl, a, _, _, _, rfl, rfl, SqL.of eat, at_of (j := i) (by omega) (vns_get eb), _, rfl, _, _, rfl, rfl, _, _, rfl, rfl, p, _, _, rfl, rfl, e4, line' (by rw [vis_len]; omega), ?_⟩
      have s5 : Same H1 (upd H4 p (.lst (vis (dg l i) ++ [V.int ((b : Int) - (0 + (i : Int) + 1))]))) := same_put s4 np
      refine ⟨_, rfl, .inl ⟨rfl, _, SqL.of upd_same⟩, _, rfl, _, rfl, t, _, _, _, rfl, rfl, SqL.of (s5 _ _ et), at_of (j := i) (by omega) (vns_get et'), _, rfl, _, _, rfl, rfl, _, _, rfl, rfl, p, _, _, rfl, rfl, upd_same, line' (by rw [List.length_append, vis_len, List.length_singleton]; omega), ?_⟩
      refine ⟨_, rfl, same_put s5 np, ?_⟩
      rw [upd_same, dg_step, vis_app, eb, et', List.append_assoc]
      show some (HO.lst (_ ++ [V.int ((b : Int) - (0 + (i : Int) + 1)), V.int (((reach l (i + 1) : Nat) : Int) - (0 + (i : Int) + 1))])) = some (HO.lst (_ ++ [V.int ((b - (i + 1) : Nat) : Int), V.int ((reach l (i + 1) - (i + 1) : Nat) : Int)]))
      rw [show (b : Int) - (0 + (i : Int) + 1) = ((b - (i + 1) : Nat) : Int) by omega, show ((reach l (i + 1) : Nat) : Int) - (0 + (i : Int) + 1) = ((reach l (i + 1) - (i + 1) : Nat) : Int) by omega]
    · rintro σ H3 ⟨x3, rfl, s4, e4⟩
      exact ⟨_, rfl, q _ p (s1.trans s4) (s1.free np) e4⟩
end
abbrev sToOdd : Stmt := topS 9
theorem scToOdd : FnScope ["parts", "odd_parts", "part", "odd"] ["parts"] (defScope sToOdd) := ⟨rfl, rfl, rfl, by decide +kernel, rfl, by decide +kernel, by decide +kernel⟩
def spToOdd : Sp := fun vs H Q _ => ∃ (a : Addr) (l : List Nat), vs = [.ref a] ∧ H a = some (.lst (vns l)) ∧ IsPart l ∧ ∀ H' p, Same H H' → H p = none → H' p = some (.lst (vns (Sq52.toOdd l))) → Q (.ref p) H'
theorem rep_vns (n x : Nat) : (List.replicate n [V.int (x : Int)]).flatten = vns (List.replicate n x) := by
  induction n with
  | zero => rfl
  | succ n ih =>
    rw [List.replicate_succ, List.flatten_cons, ih, List.replicate_succ]
    rfl
section
variable {P : Program} {w : World} {K : PySem.W.Frag} {mg : Str → Option Value} {base : Heap}
theorem ok_toOdd {f fO : Addr} {fd fdO : FuncData} {k : Nat} (F : Fun K "to_odd_parts" "to_odd_parts" sToOdd f fd) (ms : mg "sorted" = none)
    (GO : FnOk P w K mg base CX0 (k + 1) fO fdO ["part"] spOddIn) (gO : mg "odd_number_in" = some (.ref fO)) (kO : PySem.W.keepIn K (.ref fO) = true) (bO : Binds K fdO ["part"] []) : FnOk P w K mg base CX0 (k + 2) f fd ["parts"] spToOdd := by
  refine F.ok scToOdd (fun vs H Q E h => ?_) (fun cdv A outer s H vs Q E hr h => ?_)
  · obtain ⟨a, l, rfl, _⟩ := h
    rfl
  · obtain ⟨a, l, rfl, ea, hP, q⟩ := h
    refine ⟨_, pss_cons (ps_set (i := 1) scToOdd.nd rfl (.inl rfl) (pe_lst pa_nil))
      (pss_cons (ps_for PassesOwn.never rfl (pi_list (pv 0)) (pg_name (i := 2) scToOdd.nd rfl (.inl rfl))
        (pss_cons (ps_set (i := 3) scToOdd.nd rfl (.inl rfl) (pe_call GO hr (by rfl) gO kO bO .nil pass0 (pa_cons (pv 2) pa_nil)))
        (pss_one (ps_expr (pe_bm PySem.F.plainAttrs_list PySem.F.slot_list_extend PySem.F.type_list_extend mt_extend (pv 1) (pa_cons (pe_op op_rep (pe_lst (pa_cons (pv 3) pa_nil)) (pe_op op_fdiv (pv 2) (pv 3))) pa_nil))))))
      (pss_one (ps_ret (pe_callBK (cr_sortedRev (b := true)) (by rfl) ms (by decide +kernel) (pa_cons (pv 1) pa_nil) (pk_cons pe_bl pk_nil))))), ?_⟩
    have hl := hP.len
    refine ⟨Nat.zero_le _, fun p np => ?_⟩
    have s1 : Same H (upd H p (.lst [])) := same_upd np
    refine ⟨_, rfl, a, rfl, ⟨_, SqL.of (s1 _ _ ea)⟩, for_it (walk_list (xs := vns l)) (fun i σ H' => ∃ x2 x3, σ = [some (.ref a), some (.ref p), x2, x3] ∧ Same H H' ∧ H' p = some (.lst (vns ((l.take i).flatMap odds))))
      ⟨none, none, rfl, s1, upd_same⟩ (fun i σ H' _ ⟨_, _, _, s2, _⟩ => SqL.of (s2 _ _ ea)) ?_ ?_⟩
    · rintro i x σ H2 H3 hi ⟨x2, x3, rfl, s2, e2⟩ ⟨rfl, ev⟩
      obtain ⟨n, en, rfl⟩ := vns_of ev
      have hm := List.mem_of_getElem? en
      have hn0 := hP.pos n hm
      have hn6 := hP.mem hm
      have ho := oddPart_pos hn0
      have hol := oddPart_le hn0
      refine ⟨_, rfl, n, rfl, hn0, hn6, ?_⟩
      refine ⟨_, rfl, .inl ⟨rfl, _, SqL.of e2⟩, _, rfl, (by show 1 ≤ sizeLine; decide), fun p1 n1 => ?_⟩
      have t1 : Same H3 (upd H3 p1 (.lst [vn (Sq52.oddPart n n)])) := same_upd n1
      have ed : (n : Int) / ((Sq52.oddPart n n : Nat) : Int) = ((n / Sq52.oddPart n n : Nat) : Int) := (Int.natCast_ediv ..).symm
      have hd : n / Sq52.oddPart n n ≤ n := Nat.div_le_self ..
      refine ⟨_, rfl, _, rfl, _, _, rfl, rfl, ⟨by show (0 : Int) < ((Sq52.oddPart n n : Nat) : Int); omega, by show ((Sq52.oddPart n n : Nat) : Int) < 1073741824; omega⟩, p1, _, _, rfl, rfl, upd_same, (by rw [ed]; exact Int.le_trans (by decide) (Int.natCast_nonneg _)), (by rw [ed]; exact Int.lt_of_le_of_lt (Int.ofNat_le.mpr (Nat.le_trans hd hn6)) (by decide)), ?_, fun p2 n2 => ?_⟩
      · rw [ed]
        show 1 * (n / Sq52.oddPart n n) ≤ sizeLine
        exact line (by omega)
      rw [ed, show ((n / Sq52.oddPart n n : Nat) : Int).toNat = n / Sq52.oddPart n n from rfl]
      have t2 := same_upd (o := .lst (List.replicate (n / Sq52.oddPart n n) [vn (Sq52.oddPart n n)]).flatten) n2
      have fl := oddsAll_len (l.take i)
      have hts : (l.take i).sum ≤ l.sum := by
        have := List.sum_append_nat (l₁ := l.take i) (l₂ := l.drop i)
        rw [List.take_append_drop] at this
        omega
      have hs6 := hP.sum
      have er := rep_vns (n / Sq52.oddPart n n) (Sq52.oddPart n n)
      refine ⟨p, p2, _, _, rfl, rfl, t2 _ _ (t1 _ _ e2), upd_same, ?_, ?_⟩
      · have : (List.replicate (n / Sq52.oddPart n n) [vn (Sq52.oddPart n n)]).flatten = vns (odds n) := er
        rw [this, vns_len, vns_len]
        have := odds_len (a := n)
        exact line (by omega)
      · refine ⟨_, _, rfl, same_put ((s2.trans t1).trans t2) np, ?_⟩
        rw [upd_same, flat_take en]
        unfold vns
        rw [List.map_append]
        exact congrArg (fun z => some (HO.lst (_ ++ z))) er
    · rintro σ H2 ⟨x2, x3, rfl, s2, e2⟩
      rw [vns_len, List.take_length] at e2
      refine ⟨_, rfl, p, ((l.flatMap odds).map Int.ofNat), rfl, rfl, by rw [← vns_vis]; exact SqL.of e2, fun ns p' pm od np' => ?_⟩
      rw [sorted_nat pm od, ← vns_vis, ← toOdd_eq]
      exact q _ p' (s2.trans (same_upd np')) (s2.free np') upd_same
end
end Ps

set_option Elab.async false
set_option linter.all false
set_option maxRecDepth 100000
set_option maxHeartbeats 4000000
/-! partitions.py: to_different_parts -/
namespace Ps
open PySem PySem.Spec PyProof.Rows L2
theorem times_zero (l : List Nat) (a : Nat) : times l a = 0 ↔ a ∉ l := by
  unfold times
  rw [List.length_eq_zero_iff, List.filter_eq_nil_iff]
  exact ⟨fun h m => h a m (by simp), fun h b hb z => h (by
    have : b = a := by simpa using z
    rw [← this]
    exact hb)⟩
theorem fst1_mem (l : List Nat) (a : Nat) : a ∈ fst1 l ↔ a ∈ l := by
  have : ∀ n, ∀ m : List Nat, m.length = n → (a ∈ fst1 m ↔ a ∈ m) := by
    intro n
    induction n with
    | zero =>
      intro m hm
      rw [List.length_eq_zero_iff.mp hm]
      exact Iff.rfl
    | succ n ih =>
      intro m hm
      have hne : m ≠ [] := fun e => by rw [e] at hm; cases hm
      have e := List.dropLast_concat_getLast hne
      have h1 := ih m.dropLast (by rw [List.length_dropLast]; omega)
      rw [← e, fst1_snoc, List.mem_append, List.mem_singleton]
      by_cases c : (fst1 m.dropLast).contains (m.getLast hne) = true
      · rw [if_pos c, h1]
        constructor
        · exact .inl
        · rintro (z | z)
          · exact z
          · rw [← h1, z]
            simpa using c
      · rw [if_neg c, List.mem_append, List.mem_singleton, h1]
  exact this _ l rfl
def kN (a : Nat) : Key := Sum.inl (a : Int)
theorem kN_inj {a b : Nat} (h : kN a = kN b) : a = b := by
  have := Sum.inl.inj h
  omega
theorem putK_keys {kvs : List (Key × V)} {k : Key} {v : V} : (putK kvs k v).map Prod.fst = if (valV kvs k).isSome = true then kvs.map Prod.fst else kvs.map Prod.fst ++ [k] := by
  unfold putK
  rw [valV_any]
  by_cases c : (valV kvs k).isSome = true
  · rw [if_pos c, if_pos c, List.map_map]
    refine List.map_congr_left fun x _ => ?_
    show (if x.1 = k then (x.1, v) else x).1 = x.1
    split <;> rfl
  · rw [if_neg c, if_neg c, List.map_append]
    rfl
/-- how often each part has come -/
structure Cnt (kvs : List (Key × V)) (l : List Nat) : Prop where
  keys : kvs.map Prod.fst = (fst1 l).map kN
  val : ∀ a, valV kvs (kN a) = if times l a = 0 then none else some (vn (times l a))
theorem Cnt.nil : Cnt [] [] := ⟨rfl, fun a => rfl⟩
theorem Cnt.get {kvs : List (Key × V)} {l : List Nat} (h : Cnt kvs l) (a : Nat) : (valV kvs (kN a)).getD (.int 0) = vn (times l a) := by
  rw [h.val]
  by_cases c : times l a = 0
  · rw [if_pos c, c]
    rfl
  · rw [if_neg c]
    rfl
theorem Cnt.put {kvs : List (Key × V)} {l : List Nat} (h : Cnt kvs l) (a : Nat) : Cnt (putK kvs (kN a) (vn (times l a + 1))) (l ++ [a]) := by
  refine ⟨?_, fun b => ?_⟩
  · rw [putK_keys, h.val, fst1_snoc]
    by_cases c : times l a = 0
    · have hc : ¬ ((fst1 l).contains a = true) := fun z => (times_zero l a).mp c ((fst1_mem l a).mp (by simpa using z))
      rw [if_pos c, if_neg (show ¬ ((none : Option V).isSome = true) from Bool.false_ne_true), if_neg hc, h.keys, List.map_append]
      rfl
    · have hc : (fst1 l).contains a = true := by
        have : a ∈ l := Classical.byContradiction fun z => c ((times_zero l a).mpr z)
        simpa using (fst1_mem l a).mpr this
      rw [if_neg c, if_pos (show (some (vn (times l a))).isSome = true from rfl), if_pos hc]
      exact h.keys
  · rw [valV_put, times_snoc]
    by_cases c : b = a
    · subst c
      rw [if_pos rfl, if_pos rfl, if_neg (by omega)]
    · rw [if_neg (fun z => c (kN_inj z)), if_neg (show ¬ a = b from fun z => c z.symm), h.val]
      rfl
theorem Cnt.len {kvs : List (Key × V)} {l : List Nat} (h : Cnt kvs l) : kvs.length = (fst1 l).length := by
  have := congrArg List.length h.keys
  rwa [List.length_map, List.length_map] at this
theorem Cnt.at_ {kvs : List (Key × V)} {l : List Nat} (h : Cnt kvs l) {i : Nat} {k : Key} {v : V} (e : kvs[i]? = some (k, v)) : ∃ a, (fst1 l)[i]? = some a ∧ k = kN a := by
  have h1 : (kvs.map Prod.fst)[i]? = some k := by
    rw [List.getElem?_map, e]
    rfl
  rw [h.keys, List.getElem?_map] at h1
  cases e2 : (fst1 l)[i]? with
  | none => rw [e2] at h1; cases h1
  | some a =>
    rw [e2] at h1
    exact ⟨a, rfl, (Option.some.inj h1).symm⟩
abbrev sToDiff : Stmt := topS 11
theorem scToDiff : FnScope ["parts", "times", "part", "different", "odd", "power"] ["parts"] (defScope sToDiff) := ⟨rfl, rfl, rfl, by decide +kernel, rfl, by decide +kernel, by decide +kernel⟩
def spToDiff : Sp := fun vs H Q _ => ∃ (a : Addr) (l : List Nat), vs = [.ref a] ∧ H a = some (.lst (vns l)) ∧ IsPart l ∧ ∀ H' p, Same H H' → H p = none → H' p = some (.lst (vns (Sq52.toOnce l))) → Q (.ref p) H'
section
variable {P : Program} {w : World} {K : PySem.W.Frag} {mg : Str → Option Value} {base : Heap}
theorem ok_toDiff {f fO : Addr} {fd fdO : FuncData} {k : Nat} (F : Fun K "to_different_parts" "to_different_parts" sToDiff f fd) (ms : mg "sorted" = none)
    (GO : FnOk P w K mg base CX0 (k + 1) fO fdO ["many"] spPow) (gO : mg "powers_in" = some (.ref fO)) (kO : PySem.W.keepIn K (.ref fO) = true) (bO : Binds K fdO ["many"] []) : FnOk P w K mg base CX0 (k + 2) f fd ["parts"] spToDiff := by
  refine F.ok scToDiff (fun vs H Q E h => ?_) (fun cdv A outer s H vs Q E hr h => ?_)
  · obtain ⟨a, l, rfl, _⟩ := h
    rfl
  · obtain ⟨a, l, rfl, ea, hP, q⟩ := h
    have hu := hu_of hr
    refine ⟨_, pss_cons (ps_set (i := 1) scToDiff.nd rfl (.inl rfl) pe_dnewK)
      (pss_cons (ps_for PassesOwn.never rfl (pi_list (pv 0)) (pg_name (i := 2) scToDiff.nd rfl (.inl rfl))
        (pss_one (ps_dput hu (pv 1) (pv 2) (pe_op op_add (pe_dget2 hu (pv 1) (pv 2) pe_int ⟨rfl, rfl, rfl, rfl⟩) pe_int) rfl)))
      (pss_cons (ps_set (i := 3) scToDiff.nd rfl (.inl rfl) (pe_lst pa_nil))
      (pss_cons (ps_lock (ps_for PassesOwn.never rfl (pi_keys (pv 1)) (pg_name (i := 4) scToDiff.nd rfl (.inl rfl))
        (pss_one (ps_for PassesOwn.never rfl (pi_list (pe_call GO hr (by rfl) gO kO bO .nil pass0 (pa_cons (pe_dget hu (pv 1) (pv 4) (fun _ _ => rfl)) pa_nil))) (pg_name (i := 5) scToDiff.nd rfl (.inl rfl))
          (pss_one (ps_expr (pe_bm PySem.F.plainAttrs_list PySem.F.slot_list_append PySem.F.type_list_append mt_append (pv 3) (pa_cons (pe_op op_mul (pv 5) (pv 4)) pa_nil))))))))
      (pss_one (ps_ret (pe_callBK (cr_sortedRev (b := true)) (by rfl) ms (by decide +kernel) (pa_cons (pv 3) pa_nil) (pk_cons pe_bl pk_nil))))))), ?_⟩
    have hl := hP.len
    intro d nd_
    have s1 : Same H (upd H d (.dK [])) := same_upd nd_
    refine ⟨_, rfl, a, rfl, ⟨_, SqL.of (s1 _ _ ea)⟩, for_it (walk_list (xs := vns l)) (fun i σ H' => ∃ kvs x2, σ = [some (.ref a), some (.ref d), x2, none, none, none] ∧ Same H H' ∧ H' d = some (.dK kvs) ∧ Cnt kvs (l.take i))
      ⟨[], none, rfl, s1, upd_same, .nil⟩ (fun i σ H' _ ⟨_, _, _, s2, _⟩ => SqL.of (s2 _ _ ea)) ?_ ?_⟩
    · rintro i x σ H2 H3 hi ⟨kvs, x2, rfl, s2, e2, hc⟩ ⟨rfl, ev⟩
      obtain ⟨n, en, rfl⟩ := vns_of ev
      have dg : DGet H3 d (.int (n : Int)) (valV kvs (kN n)) := DGet.k (k := kN n) e2
      have hkl := hc.len
      have hfl := fst1_len (l.take i)
      rw [List.length_take] at hfl
      refine ⟨_, rfl, d, rfl, .inl ⟨_, .inl e2⟩, _, rfl, _, dg, ?_⟩
      rw [hc.get]
      refine ⟨_, _, rfl, rfl, _, rfl, _, rfl, d, _, rfl, DPut.k (k := kN n) e2 (line' (by omega)), ?_⟩
      refine ⟨_, _, rfl, same_put s2 nd_, upd_same, ?_⟩
      rw [List.take_add_one, en]
      exact hc.put n
    rintro σ H2 ⟨kvs, x2, rfl, s2, e2, hc⟩
    rw [vns_len, List.take_length] at hc
    have hkl := hc.len
    have hfl := fst1_len l
    refine ⟨Nat.zero_le _, fun p np => ?_⟩
    have s3 : Same H2 (upd H2 p (.lst [])) := same_upd np
    have np0 : H p = none := s2.free np
    have e3 := s3 _ _ e2
    have hpd : p ≠ d := ne2 e2 np
    refine ⟨d, _, e3, trivial, fun od => ?_⟩
    refine ⟨_, rfl, d, od, rfl, .inl ⟨kvs, upd_same, for_it (walk_keys (kvs := kvs)) (fun i σ H' => ∃ x2 x4 x5, σ = [some (.ref a), some (.ref d), x2, some (.ref p), x4, x5] ∧ Same H H' ∧ H' d = some (.frz od (.dK kvs)) ∧ H' p = some (.lst (vns (((fst1 l).take i).flatMap (pws l)))))
      ⟨_, _, _, rfl, same_put (s2.trans s3) nd_, upd_same, by rw [upd_ne hpd]; exact upd_same⟩ (fun i σ H' _ ⟨_, _, _, _, _, q, _⟩ => q) ?_ ?_⟩⟩
    · rintro i x σ H3 H4 hi ⟨x2, x4, x5, rfl, s4, e4, ep4⟩ ⟨rfl, k', v', ek, rfl⟩
      obtain ⟨b, eb, rfl⟩ := hc.at_ ek
      have hbl : b ∈ l := (fst1_mem l b).mp (List.mem_of_getElem? eb)
      have hb6 := hP.mem hbl
      have htm := times_le l b
      have hv := hc.val b
      rw [if_neg (fun z => (times_zero l b).mp z hbl)] at hv
      have dg : DGet H4 d (.int (b : Int)) (some (vn (times l b))) := .inl ⟨kvs, kN b, .inr ⟨_, e4⟩, rfl, hv.symm⟩
      refine ⟨_, rfl, _, rfl, d, _, rfl, dg, times l b, rfl, by omega, fun H5 pp s5 n5 e5 => ?_⟩
      have hppn : p ≠ pp := ne_of_none ep4 n5
      have hflat := flat_le (f := pws l) 10 (pws_len l) ((fst1 l).take i)
      rw [List.length_take] at hflat
      have hpl := powers_len 10 0 (times l b)
      refine ⟨pp, rfl, ⟨_, SqL.of e5⟩, for_it (walk_list (xs := vns (Sq52.powers 10 0 (times l b)))) (fun j σ H' => ∃ x5, σ = [some (.ref a), some (.ref d), x2, some (.ref p), some (.int (b : Int)), x5] ∧ Same H H' ∧ H' d = some (.frz od (.dK kvs)) ∧ H' pp = some (.lst (vns (Sq52.powers 10 0 (times l b)))) ∧ H' p = some (.lst (vns (((fst1 l).take i).flatMap (pws l) ++ ((Sq52.powers 10 0 (times l b)).take j).map fun k => k * b))))
        ⟨_, rfl, s4.trans s5, s5 _ _ e4, e5, ?_⟩ (fun j σ H' _ ⟨_, _, _, _, q, _⟩ => SqL.of q) ?_ ?_⟩
      · rw [List.take_zero, List.map_nil, List.append_nil]
        exact s5 _ _ ep4
      · rintro j y σ H6 H7 hj ⟨x5', rfl, s6, e6, epp, ep6⟩ ⟨rfl, ey⟩
        obtain ⟨m, em, rfl⟩ := vns_of ey
        have hdp : d ≠ p := hpd.symm
        refine ⟨_, rfl, .inl ⟨rfl, _, SqL.of ep6⟩, _, rfl, _, rfl, _, _, rfl, rfl, .inr ⟨by show -(2 ^ 64) < (b : Int); omega, by show (b : Int) < 2 ^ 64; omega⟩, p, _, _, rfl, rfl, ep6, ?_, ?_⟩
        · rw [vns_len, List.length_append, List.length_map, List.length_take]
          exact line' (by omega)
        refine ⟨_, rfl, same_put s6 np0, ?_, ?_, ?_⟩
        · rw [upd_ne hdp]
          exact e6
        · rw [upd_ne hppn.symm]
          exact epp
        · rw [upd_same, List.take_add_one, em, List.map_append, ← List.append_assoc]
          show some (HO.lst (vns _ ++ [V.int ((m : Int) * (b : Int))])) = some (HO.lst (vns (_ ++ [m * b])))
          unfold vns
          rw [List.map_append (l₂ := [m * b])]
          show _ = some (HO.lst (_ ++ [V.int ((m * b : Nat) : Int)]))
          rw [Int.natCast_mul]
      · rintro σ H6 ⟨x5', rfl, s6, e6, epp, ep6⟩
        refine ⟨_, _, _, rfl, s6, e6, ?_⟩
        rw [vns_len, List.take_length] at ep6
        rw [flat_take eb]
        exact ep6
    · rintro σ H3 ⟨x2, x4, x5, rfl, s4, e4, ep4⟩
      refine ⟨e4, ?_⟩
      rw [hkl, List.take_length] at ep4
      have s5 : Same H (upd H3 d (.dK kvs)) := same_put s4 nd_
      have ep5 : (upd H3 d (.dK kvs)) p = some (.lst (vns ((fst1 l).flatMap (pws l)))) := by
        rw [upd_ne hpd]
        exact ep4
      refine ⟨_, rfl, p, (((fst1 l).flatMap (pws l)).map Int.ofNat), rfl, rfl, by rw [← vns_vis]; exact SqL.of ep5, fun ns p' pm od' np' => ?_⟩
      rw [sorted_nat pm od', ← vns_vis, ← toOnce_eq]
      exact q _ p' (s5.trans (same_upd np')) (s5.free np') upd_same
end
end Ps

set_option Elab.async false
set_option linter.all false
set_option maxRecDepth 100000
set_option maxHeartbeats 4000000
/-! things.py: parts_told, answer_about_parts -/
namespace Ps
open PySem PySem.Spec PyProof.Rows L2
abbrev sPT : Stmt := topS 60
theorem scPT : FnScope ["parts"] ["parts"] (defScope sPT) := ⟨rfl, rfl, rfl, by decide +kernel, rfl, by decide +kernel, by decide +kernel⟩
def spPT : Sp := fun vs H Q _ => ∃ (a : Addr) (l : List Nat), vs = [.ref a] ∧ H a = some (.lst (vns l)) ∧ l.length ≤ 1024 ∧ ∀ H' p, Same H H' → H p = none → H' p = some (.lst (vns (l.length :: l))) → Q (.ref p) H'
section
variable {P : Program} {w : World} {K : PySem.W.Frag} {mg : Str → Option Value} {base : Heap}
theorem ok_pt {f : Addr} {fd : FuncData} {k : Nat} (F : Fun K "parts_told" "parts_told" sPT f fd) (ml : mg "len" = none) : FnOk P w K mg base CX0 (k + 1) f fd ["parts"] spPT := by
  refine F.ok scPT (fun vs H Q E h => ?_) (fun cdv A outer s H vs Q E hr h => ?_)
  · obtain ⟨a, l, rfl, _⟩ := h
    rfl
  · obtain ⟨a, l, rfl, ea, hl, q⟩ := h
    refine ⟨_, pss_one (ps_ret (pe_op op_cat (pe_lst (pa_cons (pe_callB call_len_seq (by rfl) ml PySem.boot_len (pa_cons (pv 0) pa_nil)) pa_nil)) (pv 0))), ?_⟩
    refine ⟨_, rfl, a, _, rfl, .inl (SqL.of ea), (by show 1 ≤ sizeLine; decide), fun p np => ?_⟩
    rw [vns_len]
    have s1 := same_upd (o := .lst [V.int (l.length : Int)]) np
    refine ⟨_, rfl, p, a, _, _, rfl, rfl, upd_same, s1 _ _ ea, ?_, fun p2 n2 => ?_⟩
    · rw [vns_len]
      exact line (by rw [List.length_singleton]; omega)
    · exact q _ p2 (s1.trans (same_upd n2)) (s1.free n2) (by rw [upd_same]; rfl)
end
theorem turned_le {l : List Nat} (h : IsPart l) : (Sq52.turned l).length ≤ 60 := by
  rw [turned_len]
  exact h.head
theorem toOdd_le {l : List Nat} (h : IsPart l) : (Sq52.toOdd l).length ≤ 60 := by
  rw [toOdd_eq, (sorted_perm _).length_eq]
  exact Nat.le_trans (oddsAll_len l) h.sum
theorem toOnce_le {l : List Nat} (h : IsPart l) : (Sq52.toOnce l).length ≤ 600 := by
  rw [toOnce_eq, (sorted_perm _).length_eq]
  have h1 := flat_le (f := pws l) 10 (pws_len l) (fst1 l)
  have h2 := fst1_len l
  have h3 := h.len
  omega
/-- a call about parts -/
inductive About : Nat → List Nat → Sq52.Call → Prop
  | turn {l : List Nat} : About 7 l (.turn l)
  | odd {l : List Nat} : About 8 l (.odd l)
  | once {l : List Nat} : About 9 l (.once l)
  | diag {l : List Nat} : About 10 l (.diagonal l)
theorem part_no {h l : List Nat} {ok : List Nat → Bool} {f : List Nat → List Nat} (c : isP l = false) : Sq52.House.part h l ok f = (h, Sq52.says (-3)) := by
  unfold Sq52.House.part
  rw [if_pos ((isP_no l).mp c)]
theorem isP_yes {l : List Nat} (c : isP l = true) : ¬ (Sq52.isPartition l = false ∨ Sq52.SIZE < l.sum) := fun z => by
  rw [(isP_no l).mpr z] at c
  cases c
theorem part_bad {h l : List Nat} {ok : List Nat → Bool} {f : List Nat → List Nat} (c : isP l = true) (c2 : ok l = false) : Sq52.House.part h l ok f = (h, Sq52.says (-4)) := by
  unfold Sq52.House.part
  rw [if_neg (isP_yes c), if_pos c2]
theorem part_ok {h l : List Nat} {ok : List Nat → Bool} {f : List Nat → List Nat} (c : isP l = true) (c2 : ok l = true) : vis (ansOf (Sq52.House.part h l ok f)) = vns ((f l).length :: f l) := by
  unfold Sq52.House.part
  rw [if_neg (isP_yes c), if_neg (by rw [c2]; decide), vns_vis]
  rfl
theorem about_no {h l : List Nat} {n : Nat} {C : Sq52.Call} (a : About n l C) (c : isP l = false) : ansOf (Sq52.House.step h C) = [-3] := by
  cases a with
  | turn => exact congrArg ansOf (part_no c)
  | odd => exact congrArg ansOf (part_no c)
  | once => exact congrArg ansOf (part_no c)
  | diag =>
    show ansOf (if Sq52.isPartition l = false ∨ Sq52.SIZE < l.sum then (h, Sq52.says (-3)) else _) = _
    rw [if_pos ((isP_no l).mp c)]
    rfl
theorem ans_diag {h l : List Nat} (c : isP l = true) : ansOf (Sq52.House.step h (.diagonal l)) = ((Sq52.square l : Nat) : Int) :: dg l (Sq52.square l) := by
  show ansOf (if Sq52.isPartition l = false ∨ Sq52.SIZE < l.sum then (h, Sq52.says (-3)) else (h, ⟨Sq52.square l, Sq52.ints ((Sq52.diagonal l).flatMap fun x => [x.1, x.2])⟩)) = _
  rw [if_neg (isP_yes c), dg_eq]
  rfl
structure TxtP (mg : Str → Option Value) : Prop where
  turn : ∃ t, mg "TURN" = some (.int 7 t)
  odd : ∃ t, mg "ODD" = some (.int 8 t)
  once : ∃ t, mg "ONCE" = some (.int 9 t)
  noPart : ∃ t, mg "NO_SUCH_PARTITION" = some (.int (-3) t)
  wrong : ∃ t, mg "WRONG_PARTS" = some (.int (-4) t)
structure Env3 (P : Program) (w : World) (K : PySem.W.Frag) (mg : Str → Option Value) (base : Heap) (k : Nat) : Prop where
  T : TxtP mg
  isP : ∃ (f : Addr) (fd : FuncData), mg "is_partition" = some (.ref f) ∧ PySem.W.keepIn K (.ref f) = true ∧ FnOk P w K mg base CX0 (k + 1) f fd ["parts"] spIsP ∧ Binds K fd ["parts"] []
  eq : ∃ (f : Addr) (fd : FuncData), mg "has_equal_parts" = some (.ref f) ∧ PySem.W.keepIn K (.ref f) = true ∧ FnOk P w K mg base CX0 (k + 1) f fd ["parts"] spEq ∧ Binds K fd ["parts"] []
  even : ∃ (f : Addr) (fd : FuncData), mg "has_even_part" = some (.ref f) ∧ PySem.W.keepIn K (.ref f) = true ∧ FnOk P w K mg base CX0 (k + 1) f fd ["parts"] spEven ∧ Binds K fd ["parts"] []
  turn : ∃ (f : Addr) (fd : FuncData), mg "turned_about" = some (.ref f) ∧ PySem.W.keepIn K (.ref f) = true ∧ FnOk P w K mg base CX0 (k + 2) f fd ["parts"] spTurn ∧ Binds K fd ["parts"] []
  sqr : ∃ (f : Addr) (fd : FuncData), mg "square_of" = some (.ref f) ∧ PySem.W.keepIn K (.ref f) = true ∧ FnOk P w K mg base CX0 (k + 1) f fd ["parts"] spSqr ∧ Binds K fd ["parts"] []
  diag : ∃ (f : Addr) (fd : FuncData), mg "diagonal_of" = some (.ref f) ∧ PySem.W.keepIn K (.ref f) = true ∧ FnOk P w K mg base CX0 (k + 3) f fd ["parts"] spDiag ∧ Binds K fd ["parts"] []
  toOdd : ∃ (f : Addr) (fd : FuncData), mg "to_odd_parts" = some (.ref f) ∧ PySem.W.keepIn K (.ref f) = true ∧ FnOk P w K mg base CX0 (k + 2) f fd ["parts"] spToOdd ∧ Binds K fd ["parts"] []
  toDiff : ∃ (f : Addr) (fd : FuncData), mg "to_different_parts" = some (.ref f) ∧ PySem.W.keepIn K (.ref f) = true ∧ FnOk P w K mg base CX0 (k + 2) f fd ["parts"] spToDiff ∧ Binds K fd ["parts"] []
  pt : ∃ (f : Addr) (fd : FuncData), mg "parts_told" = some (.ref f) ∧ PySem.W.keepIn K (.ref f) = true ∧ FnOk P w K mg base CX0 (k + 1) f fd ["parts"] spPT ∧ Binds K fd ["parts"] []
abbrev sAbout : Stmt := topS 51
theorem scAbout : FnScope ["asked", "parts"] ["asked", "parts"] (defScope sAbout) := ⟨rfl, rfl, rfl, by decide +kernel, rfl, by decide +kernel, by decide +kernel⟩
def spAbout : Sp := fun vs H Q _ => ∃ (n : Nat) (a : Addr) (l h : List Nat) (C : Sq52.Call), vs = [vn n, .ref a] ∧ H a = some (.lst (vns l)) ∧ l.length ≤ 1024 ∧ About n l C ∧
  ∀ H' p, Same H H' → H p = none → H' p = some (.lst (vis (ansOf (Sq52.House.step h C)))) → Q (.ref p) H'
section
variable {P : Program} {w : World} {K : PySem.W.Frag} {mg : Str → Option Value} {base : Heap}
theorem ok_about {f : Addr} {fd : FuncData} {k : Nat} (F : Fun K "answer_about_parts" "answer_about_parts" sAbout f fd) (E3 : Env3 P w K mg base k) : FnOk P w K mg base CX0 (k + 4) f fd ["asked", "parts"] spAbout := by
  obtain ⟨t1, g1⟩ := E3.T.turn
  obtain ⟨t2, g2⟩ := E3.T.odd
  obtain ⟨t3, g3⟩ := E3.T.once
  obtain ⟨t4, g4⟩ := E3.T.noPart
  obtain ⟨t5, g5⟩ := E3.T.wrong
  obtain ⟨fI, fdI, gI, kI, GI, bI⟩ := E3.isP
  obtain ⟨fE, fdE, gE, kE, GE, bE⟩ := E3.eq
  obtain ⟨fV, fdV, gV, kV, GV, bV⟩ := E3.even
  obtain ⟨fT, fdT, gT, kT, GT, bT⟩ := E3.turn
  obtain ⟨fS, fdS, gS, kS, GS, bS⟩ := E3.sqr
  obtain ⟨fD, fdD, gD, kD, GD, bD⟩ := E3.diag
  obtain ⟨fO, fdO, gO, kO, GO, bO⟩ := E3.toOdd
  obtain ⟨fF, fdF, gF, kF, GF, bF⟩ := E3.toDiff
  obtain ⟨fP, fdP, gP, kP, GP, bP⟩ := E3.pt
  refine F.ok scAbout (fun vs H Q E h => ?_) (fun cdv A outer s H vs Q E hr h => ?_)
  · obtain ⟨n, a, l, h, C, rfl, _⟩ := h
    rfl
  · obtain ⟨n, a, l, h, C, rfl, ea, hl, hA, q⟩ := h
    have hr1 : Room (k + 1) _ := hr.mono (by omega)
    have hr2 : Room (k + 2) _ := hr.mono (by omega)
    refine ⟨_, pss_cons (ps_if (pt_not (pt_val (pe_call GI hr1 (by rfl) gI kI bI .nil pass0 (pa_cons (pv 1) pa_nil)))) (pss_one (ps_ret (pe_lst (pa_cons (pe_glob (v := .int (-3)) rfl g4 ⟨_, rfl⟩) pa_nil)))) pss_nil)
      (pss_cons (ps_if (pt_cmpR op_eq (pv 0) (pe_glob (v := .int 7) rfl g1 ⟨_, rfl⟩) (nomark _)) (pss_one (ps_ret (pe_call GP hr1 (by rfl) gP kP bP .nil pass0 (pa_cons (pe_call GT hr2 (by rfl) gT kT bT .nil pass0 (pa_cons (pv 1) pa_nil)) pa_nil)))) pss_nil)
      (pss_cons (ps_if (pt_cmpR op_eq (pv 0) (pe_glob (v := .int 8) rfl g2 ⟨_, rfl⟩) (nomark _)) (pss_one (ps_ret (pe_ifExp (pt_val (pe_call GE hr1 (by rfl) gE kE bE .nil pass0 (pa_cons (pv 1) pa_nil))) (pe_lst (pa_cons (pe_glob (v := .int (-4)) rfl g5 ⟨_, rfl⟩) pa_nil)) (pe_call GP hr1 (by rfl) gP kP bP .nil pass0 (pa_cons (pe_call GO hr2 (by rfl) gO kO bO .nil pass0 (pa_cons (pv 1) pa_nil)) pa_nil))))) pss_nil)
      (pss_cons (ps_if (pt_cmpR op_eq (pv 0) (pe_glob (v := .int 9) rfl g3 ⟨_, rfl⟩) (nomark _)) (pss_one (ps_ret (pe_ifExp (pt_val (pe_call GV hr1 (by rfl) gV kV bV .nil pass0 (pa_cons (pv 1) pa_nil))) (pe_lst (pa_cons (pe_glob (v := .int (-4)) rfl g5 ⟨_, rfl⟩) pa_nil)) (pe_call GP hr1 (by rfl) gP kP bP .nil pass0 (pa_cons (pe_call GF hr2 (by rfl) gF kF bF .nil pass0 (pa_cons (pv 1) pa_nil)) pa_nil))))) pss_nil)
      (pss_one (ps_ret (pe_op op_cat (pe_lst (pa_cons (pe_call GS hr1 (by rfl) gS kS bS .nil pass0 (pa_cons (pv 1) pa_nil)) pa_nil)) (pe_call GD hr (by rfl) gD kD bD .nil pass0 (pa_cons (pv 1) pa_nil)))))))), ?_⟩
    refine ⟨_, rfl, a, l, rfl, ea, hl, fun H1 s1 => ⟨_, rfl, ?_⟩⟩
    have ea1 := s1 _ _ ea
    cases c : isP l with
    | false =>
      refine iteT ?_
      refine ⟨(by show 1 ≤ sizeLine; decide), fun p np => q _ p (s1.trans (same_upd np)) (s1.free np) ?_⟩
      rw [upd_same, about_no hA c]
      rfl
    | true =>
    refine iteF ?_
    have hP := isPart_of c
    refine ⟨_, rfl, rfl, _, rfl, ?_⟩
    cases hA with
    | turn =>
      refine itT (decide_eq_true rfl) ?_
      refine ⟨_, rfl, a, l, rfl, ea1, hP, fun H2 p2 s2 n2 e2 => ?_⟩
      have := turned_le hP
      refine ⟨p2, _, rfl, e2, by omega, fun H3 p3 s3 n3 e3 => ?_⟩
      refine q _ p3 ((s1.trans s2).trans s3) ((s1.trans s2).free n3) ?_
      rw [e3]
      exact congrArg (fun z => some (HO.lst z)) (part_ok (h := h) (ok := fun _ => true) (f := Sq52.turned) c rfl).symm
    | odd =>
      refine itF (decide_eq_false (by intro z; cases z)) ?_
      refine ⟨_, rfl, rfl, _, rfl, ?_⟩
      refine itT (decide_eq_true rfl) ?_
      refine ⟨_, rfl, a, l, rfl, ea1, hl, hP.desc, _, rfl, ?_⟩
      cases c2 : Sq52.different l with
      | false =>
        refine iteT ?_
        refine ⟨(by show 1 ≤ sizeLine; decide), fun p np => q _ p (s1.trans (same_upd np)) (s1.free np) ?_⟩
        rw [upd_same]
        exact congrArg (fun z => some (HO.lst (vis (ansOf z)))) (part_bad (h := h) (f := Sq52.toOdd) c c2).symm
      | true =>
        refine iteF ?_
        refine ⟨_, rfl, a, l, rfl, ea1, hP, fun H2 p2 s2 n2 e2 => ?_⟩
        have := toOdd_le hP
        refine ⟨p2, _, rfl, e2, by omega, fun H3 p3 s3 n3 e3 => ?_⟩
        refine q _ p3 ((s1.trans s2).trans s3) ((s1.trans s2).free n3) ?_
        rw [e3]
        exact congrArg (fun z => some (HO.lst z)) (part_ok (h := h) (f := Sq52.toOdd) c c2).symm
    | once =>
      refine itF (decide_eq_false (by intro z; cases z)) ?_
      refine ⟨_, rfl, rfl, _, rfl, ?_⟩
      refine itF (decide_eq_false (by intro z; cases z)) ?_
      refine ⟨_, rfl, rfl, _, rfl, ?_⟩
      refine itT (decide_eq_true rfl) ?_
      refine ⟨_, rfl, a, l, rfl, ea1, hl, fun H2 s2 => ⟨_, rfl, ?_⟩⟩
      have ea2 := s2 _ _ ea1
      have s12 := s1.trans s2
      cases c2 : Sq52.allOdd l with
      | false =>
        refine iteT ?_
        refine ⟨(by show 1 ≤ sizeLine; decide), fun p np => q _ p (s12.trans (same_upd np)) (s12.free np) ?_⟩
        rw [upd_same]
        exact congrArg (fun z => some (HO.lst (vis (ansOf z)))) (part_bad (h := h) (f := Sq52.toOnce) c c2).symm
      | true =>
        refine iteF ?_
        refine ⟨_, rfl, a, l, rfl, ea2, hP, fun H3 p2 s3 n2 e2 => ?_⟩
        have := toOnce_le hP
        refine ⟨p2, _, rfl, e2, by omega, fun H4 p3 s4 n3 e3 => ?_⟩
        refine q _ p3 ((s12.trans s3).trans s4) ((s12.trans s3).free n3) ?_
        rw [e3]
        exact congrArg (fun z => some (HO.lst z)) (part_ok (h := h) (f := Sq52.toOnce) c c2).symm
    | diag =>
      refine itF (decide_eq_false (by intro z; cases z)) ?_
      refine ⟨_, rfl, rfl, _, rfl, ?_⟩
      refine itF (decide_eq_false (by intro z; cases z)) ?_
      refine ⟨_, rfl, rfl, _, rfl, ?_⟩
      refine itF (decide_eq_false (by intro z; cases z)) ?_
      refine ⟨_, rfl, a, l, rfl, ea1, hl, fun H2 s2 => ?_⟩
      refine ⟨(by show 1 ≤ sizeLine; decide), fun p np => ?_⟩
      have s3 := same_upd (o := .lst [vn (Sq52.square l)]) np
      have s12 := s1.trans s2
      refine ⟨_, rfl, a, l, rfl, s3 _ _ (s2 _ _ ea1), hP, fun H3 p2 s4 n2 e2 => ?_⟩
      have hsq := square_le l
      refine ⟨p, p2, _, _, rfl, rfl, s4 _ _ upd_same, e2, ?_, fun p3 n3 => ?_⟩
      · rw [vis_len, dg_len]
        exact line (by rw [List.length_singleton]; omega)
      · have sA := (s12.trans s3).trans s4
        refine q _ p3 (sA.trans (same_upd n3)) (sA.free n3) ?_
        rw [upd_same, ans_diag c]
        rfl
end
end Ps

set_option Elab.async false
set_option linter.all false
set_option maxRecDepth 100000
set_option maxHeartbeats 4000000
/-! things.py: answer_to -/
namespace Ps
open PySem PySem.Spec PyProof.Rows L2
theorem cut_five (x y z u v : Nat) (b : List Nat) : cutV (vns (x :: y :: z :: u :: v :: b)) (some 5) none = vns b := by
  unfold cutV
  rw [show HT.sIx (vns (x :: y :: z :: u :: v :: b)).length 0 (some 5) = min 5 (vns (x :: y :: z :: u :: v :: b)).length from HT.sIx_nat _ 0 5, HT.sIx_none]
  rw [vns_len, List.length_cons, List.length_cons, List.length_cons, List.length_cons, List.length_cons, Nat.min_eq_left (by omega)]
  show (vns b).take (b.length + 1 + 1 + 1 + 1 + 1 - 5) = vns b
  exact List.take_of_length_le (by rw [vns_len]; omega)
structure TxtO (mg : Str → Option Value) : Prop where
  begin_ : ∃ t, mg "BEGIN" = some (.int 1 t)
  count : ∃ t, mg "COUNT" = some (.int 2 t)
  make : ∃ t, mg "MAKE" = some (.int 3 t)
  number : ∃ t, mg "NUMBER" = some (.int 4 t)
  list : ∃ t, mg "LIST" = some (.int 5 t)
  next : ∃ t, mg "NEXT" = some (.int 6 t)
structure Env4 (P : Program) (w : World) (K : PySem.W.Frag) (mg : Str → Option Value) (base : Heap) (k : Nat) : Prop where
  T : TxtO mg
  begin_ : ∃ (f : Addr) (fd : FuncData), mg "begin" = some (.ref f) ∧ PySem.W.keepIn K (.ref f) = true ∧ FnOk P w K mg base CX0 (k + 1) f fd ["how_many"] spBegin ∧ Binds K fd ["how_many"] []
  count : ∃ (f : Addr) (fd : FuncData), mg "count" = some (.ref f) ∧ PySem.W.keepIn K (.ref f) = true ∧ FnOk P w K mg base CX0 (k + 5) f fd ["row", "repeats", "size", "lo", "hi"] spCount ∧ Binds K fd ["row", "repeats", "size", "lo", "hi"] []
  make : ∃ (f : Addr) (fd : FuncData), mg "make" = some (.ref f) ∧ PySem.W.keepIn K (.ref f) = true ∧ FnOk P w K mg base CX0 (k + 5) f fd ["row", "repeats", "size", "lo", "hi", "k"] spMake ∧ Binds K fd ["row", "repeats", "size", "lo", "hi", "k"] []
  number : ∃ (f : Addr) (fd : FuncData), mg "number" = some (.ref f) ∧ PySem.W.keepIn K (.ref f) = true ∧ FnOk P w K mg base CX0 (k + 5) f fd ["row", "repeats", "lo", "hi", "numbers"] spNumber ∧ Binds K fd ["row", "repeats", "lo", "hi", "numbers"] []
  list : ∃ (f : Addr) (fd : FuncData), mg "list_all" = some (.ref f) ∧ PySem.W.keepIn K (.ref f) = true ∧ FnOk P w K mg base CX0 (k + 5) f fd ["row", "repeats", "size", "lo", "hi"] spList ∧ Binds K fd ["row", "repeats", "size", "lo", "hi"] []
  next : ∃ (f : Addr) (fd : FuncData), mg "next_set" = some (.ref f) ∧ PySem.W.keepIn K (.ref f) = true ∧ FnOk P w K mg base CX0 (k + 5) f fd ["row", "repeats", "lo", "hi", "numbers"] spNext ∧ Binds K fd ["row", "repeats", "lo", "hi", "numbers"] []
  about : ∃ (f : Addr) (fd : FuncData), mg "answer_about_parts" = some (.ref f) ∧ PySem.W.keepIn K (.ref f) = true ∧ FnOk P w K mg base CX0 (k + 4) f fd ["asked", "parts"] spAbout ∧ Binds K fd ["asked", "parts"] []
abbrev sTo : Stmt := topS 50
theorem scTo : FnScope ["row", "call"] ["row", "call"] (defScope sTo) := ⟨rfl, rfl, rfl, by decide +kernel, rfl, by decide +kernel, by decide +kernel⟩
section
variable {P : Program} {w : World} {K : PySem.W.Frag} {mg : Str → Option Value} {base : Heap} {k : Nat}
theorem ok_to {f : Addr} {fd : FuncData} (F : Fun K "answer_to" "answer_to" sTo f fd) (E4 : Env4 P w K mg base k) : FnOk P w K mg base CX0 (k + 6) f fd ["row", "call"] spTo := by
  obtain ⟨t1, g1⟩ := E4.T.begin_
  obtain ⟨t2, g2⟩ := E4.T.count
  obtain ⟨t3, g3⟩ := E4.T.make
  obtain ⟨t4, g4⟩ := E4.T.number
  obtain ⟨t5, g5⟩ := E4.T.list
  obtain ⟨t6, g6⟩ := E4.T.next
  obtain ⟨fB, fdB, gB, kB, GB, bB⟩ := E4.begin_
  obtain ⟨fC, fdC, gC, kC, GC, bC⟩ := E4.count
  obtain ⟨fM, fdM, gM, kM, GM, bM⟩ := E4.make
  obtain ⟨fN, fdN, gN, kN', GN, bN⟩ := E4.number
  obtain ⟨fL, fdL, gL, kL, GL, bL⟩ := E4.list
  obtain ⟨fX, fdX, gX, kX, GX, bX⟩ := E4.next
  obtain ⟨fA, fdA, gA, kA, GA, bA⟩ := E4.about
  refine F.ok scTo (fun vs H Q E h => ?_) (fun cdv A outer s H vs Q E hr h => ?_)
  · obtain ⟨r, h, ca, C, wd, rfl, _⟩ := h
    rfl
  · obtain ⟨r, h, ca, C, wd, rfl, hR, hg, ec, hF, hl, q⟩ := h
    have hr1 : Room (k + 1) _ := hr.mono (by omega)
    have hr4 : Room (k + 4) _ := hr.mono (by omega)
    refine ⟨_, pss_cons (ps_if (pt_cmpR op_eq (pe_ix (ixl (K := K)) (pv 1) pe_int (fun _ _ => rfl)) (pe_glob (v := .int 1) rfl g1 ⟨_, rfl⟩) (nomark _))
        (pss_one (ps_ret (pe_call GB hr1 (by rfl) gB kB bB .nil pass0 (pa_cons (pe_slice sl_list (pv 1) (po_some pe_int) po_none) pa_nil)))) pss_nil)
      (pss_cons (ps_if (pt_cmpR op_eq (pe_ix (ixl (K := K)) (pv 1) pe_int (fun _ _ => rfl)) (pe_glob (v := .int 2) rfl g2 ⟨_, rfl⟩) (nomark _))
        (pss_one (ps_ret (pe_call GC hr (by rfl) gC kC bC .nil pass0 (pa_cons (pv 0) (pa_cons (pe_ix (ixl (K := K)) (pv 1) pe_int (fun _ _ => rfl)) (pa_cons (pe_ix (ixl (K := K)) (pv 1) pe_int (fun _ _ => rfl)) (pa_cons (pe_ix (ixl (K := K)) (pv 1) pe_int (fun _ _ => rfl)) (pa_cons (pe_ix (ixl (K := K)) (pv 1) pe_int (fun _ _ => rfl)) pa_nil)))))))) pss_nil)
      (pss_cons (ps_if (pt_cmpR op_eq (pe_ix (ixl (K := K)) (pv 1) pe_int (fun _ _ => rfl)) (pe_glob (v := .int 3) rfl g3 ⟨_, rfl⟩) (nomark _))
        (pss_one (ps_ret (pe_call GM hr (by rfl) gM kM bM .nil pass0 (pa_cons (pv 0) (pa_cons (pe_ix (ixl (K := K)) (pv 1) pe_int (fun _ _ => rfl)) (pa_cons (pe_ix (ixl (K := K)) (pv 1) pe_int (fun _ _ => rfl)) (pa_cons (pe_ix (ixl (K := K)) (pv 1) pe_int (fun _ _ => rfl)) (pa_cons (pe_ix (ixl (K := K)) (pv 1) pe_int (fun _ _ => rfl)) (pa_cons (pe_ix (ixl (K := K)) (pv 1) pe_int (fun _ _ => rfl)) pa_nil))))))))) pss_nil)
      (pss_cons (ps_if (pt_cmpR op_eq (pe_ix (ixl (K := K)) (pv 1) pe_int (fun _ _ => rfl)) (pe_glob (v := .int 4) rfl g4 ⟨_, rfl⟩) (nomark _))
        (pss_one (ps_ret (pe_call GN hr (by rfl) gN kN' bN .nil pass0 (pa_cons (pv 0) (pa_cons (pe_ix (ixl (K := K)) (pv 1) pe_int (fun _ _ => rfl)) (pa_cons (pe_ix (ixl (K := K)) (pv 1) pe_int (fun _ _ => rfl)) (pa_cons (pe_ix (ixl (K := K)) (pv 1) pe_int (fun _ _ => rfl)) (pa_cons (pe_slice sl_list (pv 1) (po_some pe_int) po_none) pa_nil)))))))) pss_nil)
      (pss_cons (ps_if (pt_cmpR op_eq (pe_ix (ixl (K := K)) (pv 1) pe_int (fun _ _ => rfl)) (pe_glob (v := .int 5) rfl g5 ⟨_, rfl⟩) (nomark _))
        (pss_one (ps_ret (pe_call GL hr (by rfl) gL kL bL .nil pass0 (pa_cons (pv 0) (pa_cons (pe_ix (ixl (K := K)) (pv 1) pe_int (fun _ _ => rfl)) (pa_cons (pe_ix (ixl (K := K)) (pv 1) pe_int (fun _ _ => rfl)) (pa_cons (pe_ix (ixl (K := K)) (pv 1) pe_int (fun _ _ => rfl)) (pa_cons (pe_ix (ixl (K := K)) (pv 1) pe_int (fun _ _ => rfl)) pa_nil)))))))) pss_nil)
      (pss_cons (ps_if (pt_cmpR op_eq (pe_ix (ixl (K := K)) (pv 1) pe_int (fun _ _ => rfl)) (pe_glob (v := .int 6) rfl g6 ⟨_, rfl⟩) (nomark _))
        (pss_one (ps_ret (pe_call GX hr (by rfl) gX kX bX .nil pass0 (pa_cons (pv 0) (pa_cons (pe_ix (ixl (K := K)) (pv 1) pe_int (fun _ _ => rfl)) (pa_cons (pe_ix (ixl (K := K)) (pv 1) pe_int (fun _ _ => rfl)) (pa_cons (pe_ix (ixl (K := K)) (pv 1) pe_int (fun _ _ => rfl)) (pa_cons (pe_slice sl_list (pv 1) (po_some pe_int) po_none) pa_nil)))))))) pss_nil)
      (pss_one (ps_ret (pe_call GA hr4 (by rfl) gA kA bA .nil pass0 (pa_cons (pe_ix (ixl (K := K)) (pv 1) pe_int (fun _ _ => rfl)) (pa_cons (pe_slice sl_list (pv 1) (po_some pe_int) po_none) pa_nil)))))))))), ?_⟩
    have e0 : (vns wd)[0]? = some (.int ((opN C : Nat) : Int)) := vns_get (form_head hF)
    cases C with
    | begin_ b =>
      cases hF
      refine ⟨_, rfl, ca, _, _, _, rfl, rfl, SqL.of ec, at_of (j := 0) rfl e0, rfl, _, rfl, ?_⟩
      refine itT (decide_eq_true rfl) ?_
      refine ⟨_, rfl, _, rfl, ca, _, rfl, SqL.of ec, fun p np => ?_⟩
      rw [cut_two]
      have sp := same_upd (o := .lst (vns b)) np
      exact ⟨p, b, h, rfl, upd_same, hl, fun H' p' s' n' e' => q _ p' (sp.trans s') (sp.free n') e'⟩
    | count o n lo hi =>
      cases hF
      refine ⟨_, rfl, ca, _, _, _, rfl, rfl, SqL.of ec, at_of (j := 0) rfl e0, rfl, _, rfl, ?_⟩
      refine itF (decide_eq_false (by intro z; cases z)) ?_
      refine ⟨_, rfl, ca, _, _, _, rfl, rfl, SqL.of ec, at_of (j := 0) rfl e0, rfl, _, rfl, ?_⟩
      refine itT (decide_eq_true rfl) ?_
      refine ⟨_, rfl, _, rfl, ca, _, _, _, rfl, rfl, SqL.of ec, at_of (j := 1) rfl rfl, _, rfl, ca, _, _, _, rfl, rfl, SqL.of ec, at_of (j := 2) rfl rfl, _, rfl, ca, _, _, _, rfl, rfl, SqL.of ec, at_of (j := 3) rfl rfl, _, rfl, ca, _, _, _, rfl, rfl, SqL.of ec, at_of (j := 4) rfl rfl, ?_⟩
      exact ⟨r, h, o, n, lo, hi, rfl, hR, hg, q⟩
    | make o n lo hi kk =>
      cases hF
      refine ⟨_, rfl, ca, _, _, _, rfl, rfl, SqL.of ec, at_of (j := 0) rfl e0, rfl, _, rfl, ?_⟩
      refine itF (decide_eq_false (by intro z; cases z)) ?_
      refine ⟨_, rfl, ca, _, _, _, rfl, rfl, SqL.of ec, at_of (j := 0) rfl e0, rfl, _, rfl, ?_⟩
      refine itF (decide_eq_false (by intro z; cases z)) ?_
      refine ⟨_, rfl, ca, _, _, _, rfl, rfl, SqL.of ec, at_of (j := 0) rfl e0, rfl, _, rfl, ?_⟩
      refine itT (decide_eq_true rfl) ?_
      refine ⟨_, rfl, _, rfl, ca, _, _, _, rfl, rfl, SqL.of ec, at_of (j := 1) rfl rfl, _, rfl, ca, _, _, _, rfl, rfl, SqL.of ec, at_of (j := 2) rfl rfl, _, rfl, ca, _, _, _, rfl, rfl, SqL.of ec, at_of (j := 3) rfl rfl, _, rfl, ca, _, _, _, rfl, rfl, SqL.of ec, at_of (j := 4) rfl rfl, _, rfl, ca, _, _, _, rfl, rfl, SqL.of ec, at_of (j := 5) rfl rfl, ?_⟩
      exact ⟨r, h, o, n, lo, hi, kk, rfl, hR, hg, q⟩
    | number o lo hi l =>
      cases hF
      refine ⟨_, rfl, ca, _, _, _, rfl, rfl, SqL.of ec, at_of (j := 0) rfl e0, rfl, _, rfl, ?_⟩
      refine itF (decide_eq_false (by intro z; cases z)) ?_
      refine ⟨_, rfl, ca, _, _, _, rfl, rfl, SqL.of ec, at_of (j := 0) rfl e0, rfl, _, rfl, ?_⟩
      refine itF (decide_eq_false (by intro z; cases z)) ?_
      refine ⟨_, rfl, ca, _, _, _, rfl, rfl, SqL.of ec, at_of (j := 0) rfl e0, rfl, _, rfl, ?_⟩
      refine itF (decide_eq_false (by intro z; cases z)) ?_
      refine ⟨_, rfl, ca, _, _, _, rfl, rfl, SqL.of ec, at_of (j := 0) rfl e0, rfl, _, rfl, ?_⟩
      refine itT (decide_eq_true rfl) ?_
      refine ⟨_, rfl, _, rfl, ca, _, _, _, rfl, rfl, SqL.of ec, at_of (j := 1) rfl rfl, _, rfl, ca, _, _, _, rfl, rfl, SqL.of ec, at_of (j := 2) rfl rfl, _, rfl, ca, _, _, _, rfl, rfl, SqL.of ec, at_of (j := 3) rfl rfl, _, rfl, _, rfl, ca, _, rfl, SqL.of ec, fun p np => ?_⟩
      rw [cut_five]
      have sp := same_upd (o := .lst (vns l)) np
      exact ⟨r, h, o, lo, hi, p, l, rfl, RowT.same sp hR, hg, upd_same, hl, fun H' p' s' n' e' => q _ p' (sp.trans s') (sp.free n') e'⟩
    | list o n lo hi =>
      cases hF
      refine ⟨_, rfl, ca, _, _, _, rfl, rfl, SqL.of ec, at_of (j := 0) rfl e0, rfl, _, rfl, ?_⟩
      refine itF (decide_eq_false (by intro z; cases z)) ?_
      refine ⟨_, rfl, ca, _, _, _, rfl, rfl, SqL.of ec, at_of (j := 0) rfl e0, rfl, _, rfl, ?_⟩
      refine itF (decide_eq_false (by intro z; cases z)) ?_
      refine ⟨_, rfl, ca, _, _, _, rfl, rfl, SqL.of ec, at_of (j := 0) rfl e0, rfl, _, rfl, ?_⟩
      refine itF (decide_eq_false (by intro z; cases z)) ?_
      refine ⟨_, rfl, ca, _, _, _, rfl, rfl, SqL.of ec, at_of (j := 0) rfl e0, rfl, _, rfl, ?_⟩
      refine itF (decide_eq_false (by intro z; cases z)) ?_
      refine ⟨_, rfl, ca, _, _, _, rfl, rfl, SqL.of ec, at_of (j := 0) rfl e0, rfl, _, rfl, ?_⟩
      refine itT (decide_eq_true rfl) ?_
      refine ⟨_, rfl, _, rfl, ca, _, _, _, rfl, rfl, SqL.of ec, at_of (j := 1) rfl rfl, _, rfl, ca, _, _, _, rfl, rfl, SqL.of ec, at_of (j := 2) rfl rfl, _, rfl, ca, _, _, _, rfl, rfl, SqL.of ec, at_of (j := 3) rfl rfl, _, rfl, ca, _, _, _, rfl, rfl, SqL.of ec, at_of (j := 4) rfl rfl, ?_⟩
      exact ⟨r, h, o, n, lo, hi, rfl, hR, hg, q⟩
    | next o lo hi l =>
      cases hF
      refine ⟨_, rfl, ca, _, _, _, rfl, rfl, SqL.of ec, at_of (j := 0) rfl e0, rfl, _, rfl, ?_⟩
      refine itF (decide_eq_false (by intro z; cases z)) ?_
      refine ⟨_, rfl, ca, _, _, _, rfl, rfl, SqL.of ec, at_of (j := 0) rfl e0, rfl, _, rfl, ?_⟩
      refine itF (decide_eq_false (by intro z; cases z)) ?_
      refine ⟨_, rfl, ca, _, _, _, rfl, rfl, SqL.of ec, at_of (j := 0) rfl e0, rfl, _, rfl, ?_⟩
      refine itF (decide_eq_false (by intro z; cases z)) ?_
      refine ⟨_, rfl, ca, _, _, _, rfl, rfl, SqL.of ec, at_of (j := 0) rfl e0, rfl, _, rfl, ?_⟩
      refine itF (decide_eq_false (by intro z; cases z)) ?_
      refine ⟨_, rfl, ca, _, _, _, rfl, rfl, SqL.of ec, at_of (j := 0) rfl e0, rfl, _, rfl, ?_⟩
      refine itF (decide_eq_false (by intro z; cases z)) ?_
      refine ⟨_, rfl, ca, _, _, _, rfl, rfl, SqL.of ec, at_of (j := 0) rfl e0, rfl, _, rfl, ?_⟩
      refine itT (decide_eq_true rfl) ?_
      refine ⟨_, rfl, _, rfl, ca, _, _, _, rfl, rfl, SqL.of ec, at_of (j := 1) rfl rfl, _, rfl, ca, _, _, _, rfl, rfl, SqL.of ec, at_of (j := 2) rfl rfl, _, rfl, ca, _, _, _, rfl, rfl, SqL.of ec, at_of (j := 3) rfl rfl, _, rfl, _, rfl, ca, _, rfl, SqL.of ec, fun p np => ?_⟩
      rw [cut_five]
      have sp := same_upd (o := .lst (vns l)) np
      exact ⟨r, h, o, lo, hi, p, l, rfl, RowT.same sp hR, hg, upd_same, hl, fun H' p' s' n' e' => q _ p' (sp.trans s') (sp.free n') e'⟩
    | turn l =>
      cases hF
      refine ⟨_, rfl, ca, _, _, _, rfl, rfl, SqL.of ec, at_of (j := 0) rfl e0, rfl, _, rfl, ?_⟩
      refine itF (decide_eq_false (by intro z; cases z)) ?_
      refine ⟨_, rfl, ca, _, _, _, rfl, rfl, SqL.of ec, at_of (j := 0) rfl e0, rfl, _, rfl, ?_⟩
      refine itF (decide_eq_false (by intro z; cases z)) ?_
      refine ⟨_, rfl, ca, _, _, _, rfl, rfl, SqL.of ec, at_of (j := 0) rfl e0, rfl, _, rfl, ?_⟩
      refine itF (decide_eq_false (by intro z; cases z)) ?_
      refine ⟨_, rfl, ca, _, _, _, rfl, rfl, SqL.of ec, at_of (j := 0) rfl e0, rfl, _, rfl, ?_⟩
      refine itF (decide_eq_false (by intro z; cases z)) ?_
      refine ⟨_, rfl, ca, _, _, _, rfl, rfl, SqL.of ec, at_of (j := 0) rfl e0, rfl, _, rfl, ?_⟩
      refine itF (decide_eq_false (by intro z; cases z)) ?_
      refine ⟨_, rfl, ca, _, _, _, rfl, rfl, SqL.of ec, at_of (j := 0) rfl e0, rfl, _, rfl, ?_⟩
      refine itF (decide_eq_false (by intro z; cases z)) ?_
      refine ⟨_, rfl, ca, _, _, _, rfl, rfl, SqL.of ec, at_of (j := 0) rfl e0, _, rfl, _, rfl, ca, _, rfl, SqL.of ec, fun p np => ?_⟩
      rw [cut_two]
      have sp := same_upd (o := .lst (vns l)) np
      exact ⟨_, p, l, h, _, rfl, upd_same, hl, .turn, fun H' p' s' n' e' => q _ p' (sp.trans s') (sp.free n') e'⟩
    | odd l =>
      cases hF
      refine ⟨_, rfl, ca, _, _, _, rfl, rfl, SqL.of ec, at_of (j := 0) rfl e0, rfl, _, rfl, ?_⟩
      refine itF (decide_eq_false (by intro z; cases z)) ?_
      refine ⟨_, rfl, ca, _, _, _, rfl, rfl, SqL.of ec, at_of (j := 0) rfl e0, rfl, _, rfl, ?_⟩
      refine itF (decide_eq_false (by intro z; cases z)) ?_
      refine ⟨_, rfl, ca, _, _, _, rfl, rfl, SqL.of ec, at_of (j := 0) rfl e0, rfl, _, rfl, ?_⟩
      refine itF (decide_eq_false (by intro z; cases z)) ?_
      refine ⟨_, rfl, ca, _, _, _, rfl, rfl, SqL.of ec, at_of (j := 0) rfl e0, rfl, _, rfl, ?_⟩
      refine itF (decide_eq_false (by intro z; cases z)) ?_
      refine ⟨_, rfl, ca, _, _, _, rfl, rfl, SqL.of ec, at_of (j := 0) rfl e0, rfl, _, rfl, ?_⟩
      refine itF (decide_eq_false (by intro z; cases z)) ?_
      refine ⟨_, rfl, ca, _, _, _, rfl, rfl, SqL.of ec, at_of (j := 0) rfl e0, rfl, _, rfl, ?_⟩
      refine itF (decide_eq_false (by intro z; cases z)) ?_
      refine ⟨_, rfl, ca, _, _, _, rfl, rfl, SqL.of ec, at_of (j := 0) rfl e0, _, rfl, _, rfl, ca, _, rfl, SqL.of ec, fun p np => ?_⟩
      rw [cut_two]
      have sp := same_upd (o := .lst (vns l)) np
      exact ⟨_, p, l, h, _, rfl, upd_same, hl, .odd, fun H' p' s' n' e' => q _ p' (sp.trans s') (sp.free n') e'⟩
    | once l =>
      cases hF
      refine ⟨_, rfl, ca, _, _, _, rfl, rfl, SqL.of ec, at_of (j := 0) rfl e0, rfl, _, rfl, ?_⟩
      refine itF (decide_eq_false (by intro z; cases z)) ?_
      refine ⟨_, rfl, ca, _, _, _, rfl, rfl, SqL.of ec, at_of (j := 0) rfl e0, rfl, _, rfl, ?_⟩
      refine itF (decide_eq_false (by intro z; cases z)) ?_
      refine ⟨_, rfl, ca, _, _, _, rfl, rfl, SqL.of ec, at_of (j := 0) rfl e0, rfl, _, rfl, ?_⟩
      refine itF (decide_eq_false (by intro z; cases z)) ?_
      refine ⟨_, rfl, ca, _, _, _, rfl, rfl, SqL.of ec, at_of (j := 0) rfl e0, rfl, _, rfl, ?_⟩
      refine itF (decide_eq_false (by intro z; cases z)) ?_
      refine ⟨_, rfl, ca, _, _, _, rfl, rfl, SqL.of ec, at_of (j := 0) rfl e0, rfl, _, rfl, ?_⟩
      refine itF (decide_eq_false (by intro z; cases z)) ?_
      refine ⟨_, rfl, ca, _, _, _, rfl, rfl, SqL.of ec, at_of (j := 0) rfl e0, rfl, _, rfl, ?_⟩
      refine itF (decide_eq_false (by intro z; cases z)) ?_
      refine ⟨_, rfl, ca, _, _, _, rfl, rfl, SqL.of ec, at_of (j := 0) rfl e0, _, rfl, _, rfl, ca, _, rfl, SqL.of ec, fun p np => ?_⟩
      rw [cut_two]
      have sp := same_upd (o := .lst (vns l)) np
      exact ⟨_, p, l, h, _, rfl, upd_same, hl, .once, fun H' p' s' n' e' => q _ p' (sp.trans s') (sp.free n') e'⟩
    | diagonal l =>
      cases hF
      refine ⟨_, rfl, ca, _, _, _, rfl, rfl, SqL.of ec, at_of (j := 0) rfl e0, rfl, _, rfl, ?_⟩
      refine itF (decide_eq_false (by intro z; cases z)) ?_
      refine ⟨_, rfl, ca, _, _, _, rfl, rfl, SqL.of ec, at_of (j := 0) rfl e0, rfl, _, rfl, ?_⟩
      refine itF (decide_eq_false (by intro z; cases z)) ?_
      refine ⟨_, rfl, ca, _, _, _, rfl, rfl, SqL.of ec, at_of (j := 0) rfl e0, rfl, _, rfl, ?_⟩
      refine itF (decide_eq_false (by intro z; cases z)) ?_
      refine ⟨_, rfl, ca, _, _, _, rfl, rfl, SqL.of ec, at_of (j := 0) rfl e0, rfl, _, rfl, ?_⟩
      refine itF (decide_eq_false (by intro z; cases z)) ?_
      refine ⟨_, rfl, ca, _, _, _, rfl, rfl, SqL.of ec, at_of (j := 0) rfl e0, rfl, _, rfl, ?_⟩
      refine itF (decide_eq_false (by intro z; cases z)) ?_
      refine ⟨_, rfl, ca, _, _, _, rfl, rfl, SqL.of ec, at_of (j := 0) rfl e0, rfl, _, rfl, ?_⟩
      refine itF (decide_eq_false (by intro z; cases z)) ?_
      refine ⟨_, rfl, ca, _, _, _, rfl, rfl, SqL.of ec, at_of (j := 0) rfl e0, _, rfl, _, rfl, ca, _, rfl, SqL.of ec, fun p np => ?_⟩
      rw [cut_two]
      have sp := same_upd (o := .lst (vns l)) np
      exact ⟨_, p, l, h, _, rfl, upd_same, hl, .diag, fun H' p' s' n' e' => q _ p' (sp.trans s') (sp.free n') e'⟩
end
end Ps

set_option Elab.async false
set_option linter.all false
set_option maxRecDepth 100000
set_option maxHeartbeats 4000000
namespace Ps
open PySem PySem.Spec PyProof.Rows L2
theorem all_mk {P : Program} {w : World} {K : PySem.W.Frag} {h : Heap} {mg : Str → Option Value} {fa : Addr} (X : K.In h) (G : h.Ns mainGlobals mg) (hfa : mg "answers" = some (.ref fa))
    {f_row_of f_things_of f_places_of f_are_in_order f_ways_behind_all f_ways_with_thing f_ways_from_each f_answers f_end_of_call f_answer_to f_begin f_count f_make f_number f_list_all f_set_told f_size_of f_refusal_of_things f_next_set f_answer_about_parts f_parts_told f_is_partition f_has_equal_parts f_has_even_part f_turned_about f_how_many_reach f_square_of f_diagonal_of f_to_odd_parts f_odd_number_in f_to_different_parts f_powers_in f_init f_how_many f_how_many_take f_set_at f_number_of C dA tA : Addr} {od_row_of an_row_of od_things_of an_things_of od_places_of an_places_of od_are_in_order an_are_in_order od_ways_behind_all an_ways_behind_all od_ways_with_thing an_ways_with_thing od_ways_from_each an_ways_from_each od_answers an_answers od_end_of_call an_end_of_call od_answer_to an_answer_to od_begin an_begin od_count an_count od_make an_make od_number an_number od_list_all an_list_all od_set_told an_set_told od_size_of an_size_of od_refusal_of_things an_refusal_of_things od_next_set an_next_set od_answer_about_parts an_answer_about_parts od_parts_told an_parts_told od_is_partition an_is_partition od_has_equal_parts an_has_equal_parts od_has_even_part an_has_even_part od_turned_about an_turned_about od_how_many_reach an_how_many_reach od_square_of an_square_of od_diagonal_of an_diagonal_of od_to_odd_parts an_to_odd_parts od_odd_number_in an_odd_number_in od_to_different_parts an_to_different_parts od_powers_in an_powers_in od_init an_init od_how_many an_how_many od_how_many_take an_how_many_take od_set_at an_set_at od_number_of an_number_of tD : Option Addr} {sl_row_of sl_things_of sl_places_of sl_are_in_order sl_ways_behind_all sl_ways_with_thing sl_ways_from_each sl_answers sl_end_of_call sl_answer_to sl_begin sl_count sl_make sl_number sl_list_all sl_set_told sl_size_of sl_refusal_of_things sl_next_set sl_answer_about_parts sl_parts_told sl_is_partition sl_has_equal_parts sl_has_even_part sl_turned_about sl_how_many_reach sl_square_of sl_diagonal_of sl_to_odd_parts sl_odd_number_in sl_to_different_parts sl_powers_in sl_init sl_how_many sl_how_many_take sl_set_at sl_number_of tS : Array (Option Value)} {oc_row_of kV_row_of dc_row_of pm_row_of cd_row_of ct_row_of oc_things_of kV_things_of dc_things_of pm_things_of cd_things_of ct_things_of oc_places_of kV_places_of dc_places_of pm_places_of cd_places_of ct_places_of oc_are_in_order kV_are_in_order dc_are_in_order pm_are_in_order cd_are_in_order ct_are_in_order oc_ways_behind_all kV_ways_behind_all dc_ways_behind_all pm_ways_behind_all cd_ways_behind_all ct_ways_behind_all oc_ways_with_thing kV_ways_with_thing dc_ways_with_thing pm_ways_with_thing cd_ways_with_thing ct_ways_with_thing oc_ways_from_each kV_ways_from_each dc_ways_from_each pm_ways_from_each cd_ways_from_each ct_ways_from_each oc_answers kV_answers dc_answers pm_answers cd_answers ct_answers oc_end_of_call kV_end_of_call dc_end_of_call pm_end_of_call cd_end_of_call ct_end_of_call oc_answer_to kV_answer_to dc_answer_to pm_answer_to cd_answer_to ct_answer_to oc_begin kV_begin dc_begin pm_begin cd_begin ct_begin oc_count kV_count dc_count pm_count cd_count ct_count oc_make kV_make dc_make pm_make cd_make ct_make oc_number kV_number dc_number pm_number cd_number ct_number oc_list_all kV_list_all dc_list_all pm_list_all cd_list_all ct_list_all oc_set_told kV_set_told dc_set_told pm_set_told cd_set_told ct_set_told oc_size_of kV_size_of dc_size_of pm_size_of cd_size_of ct_size_of oc_refusal_of_things kV_refusal_of_things dc_refusal_of_things pm_refusal_of_things cd_refusal_of_things ct_refusal_of_things oc_next_set kV_next_set dc_next_set pm_next_set cd_next_set ct_next_set oc_answer_about_parts kV_answer_about_parts dc_answer_about_parts pm_answer_about_parts cd_answer_about_parts ct_answer_about_parts oc_parts_told kV_parts_told dc_parts_told pm_parts_told cd_parts_told ct_parts_told oc_is_partition kV_is_partition dc_is_partition pm_is_partition cd_is_partition ct_is_partition oc_has_equal_parts kV_has_equal_parts dc_has_equal_parts pm_has_equal_parts cd_has_equal_parts ct_has_equal_parts oc_has_even_part kV_has_even_part dc_has_even_part pm_has_even_part cd_has_even_part ct_has_even_part oc_turned_about kV_turned_about dc_turned_about pm_turned_about cd_turned_about ct_turned_about oc_how_many_reach kV_how_many_reach dc_how_many_reach pm_how_many_reach cd_how_many_reach ct_how_many_reach oc_square_of kV_square_of dc_square_of pm_square_of cd_square_of ct_square_of oc_diagonal_of kV_diagonal_of dc_diagonal_of pm_diagonal_of cd_diagonal_of ct_diagonal_of oc_to_odd_parts kV_to_odd_parts dc_to_odd_parts pm_to_odd_parts cd_to_odd_parts ct_to_odd_parts oc_odd_number_in kV_odd_number_in dc_odd_number_in pm_odd_number_in cd_odd_number_in ct_odd_number_in oc_to_different_parts kV_to_different_parts dc_to_different_parts pm_to_different_parts cd_to_different_parts ct_to_different_parts oc_powers_in kV_powers_in dc_powers_in pm_powers_in cd_powers_in ct_powers_in oc_init kV_init dc_init pm_init cd_init ct_init oc_how_many kV_how_many dc_how_many pm_how_many cd_how_many ct_how_many oc_how_many_take kV_how_many_take dc_how_many_take pm_how_many_take cd_how_many_take ct_how_many_take oc_set_at kV_set_at dc_set_at pm_set_at cd_set_at ct_set_at oc_number_of kV_number_of dc_number_of pm_number_of cd_number_of ct_number_of : Value} {t_MOST_SIZES t_MOST_THINGS t_MOST_SIZE t_MOST_SETS t_MOST_LISTED t_OUT_OF_BOUNDS t_NO_SUCH_SET t_TOO_LONG_A_LIST t_TOO_MANY_SETS t_BEGIN t_COUNT t_MAKE t_NUMBER t_LIST t_NEXT t_TURN t_ODD t_ONCE t_NO_SUCH_PARTITION t_WRONG_PARTS t_LAST_SET t_MOST_TOGETHER u0 u1 u2 u3 u4 u5 u6 : Tok} {dE : Array DictEntry} {dN tM : Nat}
    (aC : PySem.W.nsIn K mainGlobals "SizedSets" = some (some (.ref C)))
    (a_row_of : PySem.W.nsIn K mainGlobals "row_of" = some (some (.ref f_row_of)))
    (l_row_of : K.lookup f_row_of = some ⟨oc_row_of, od_row_of, .func (PySem.W.fnOf "row_of" "row_of" (defArgs sRow) (defBody sRow) (defScope sRow) .none kV_row_of dc_row_of pm_row_of an_row_of cd_row_of ct_row_of), sl_row_of⟩) (c_row_of : PySem.W.codeIn K cd_row_of "row_of" = true) (k_row_of : PySem.W.keepIn K (.ref f_row_of) = true)
    (a_things_of : PySem.W.nsIn K mainGlobals "things_of" = some (some (.ref f_things_of)))
    (l_things_of : K.lookup f_things_of = some ⟨oc_things_of, od_things_of, .func (PySem.W.fnOf "things_of" "things_of" (defArgs sThings) (defBody sThings) (defScope sThings) .none kV_things_of dc_things_of pm_things_of an_things_of cd_things_of ct_things_of), sl_things_of⟩) (c_things_of : PySem.W.codeIn K cd_things_of "things_of" = true) (k_things_of : PySem.W.keepIn K (.ref f_things_of) = true)
    (a_places_of : PySem.W.nsIn K mainGlobals "places_of" = some (some (.ref f_places_of)))
    (l_places_of : K.lookup f_places_of = some ⟨oc_places_of, od_places_of, .func (PySem.W.fnOf "places_of" "places_of" (defArgs sPlaces) (defBody sPlaces) (defScope sPlaces) .none kV_places_of dc_places_of pm_places_of an_places_of cd_places_of ct_places_of), sl_places_of⟩) (c_places_of : PySem.W.codeIn K cd_places_of "places_of" = true) (k_places_of : PySem.W.keepIn K (.ref f_places_of) = true)
    (a_are_in_order : PySem.W.nsIn K mainGlobals "are_in_order" = some (some (.ref f_are_in_order)))
    (l_are_in_order : K.lookup f_are_in_order = some ⟨oc_are_in_order, od_are_in_order, .func (PySem.W.fnOf "are_in_order" "are_in_order" (defArgs sOrd) (defBody sOrd) (defScope sOrd) .none kV_are_in_order dc_are_in_order pm_are_in_order an_are_in_order cd_are_in_order ct_are_in_order), sl_are_in_order⟩) (c_are_in_order : PySem.W.codeIn K cd_are_in_order "are_in_order" = true) (k_are_in_order : PySem.W.keepIn K (.ref f_are_in_order) = true)
    (a_ways_behind_all : PySem.W.nsIn K mainGlobals "ways_behind_all" = some (some (.ref f_ways_behind_all)))
    (l_ways_behind_all : K.lookup f_ways_behind_all = some ⟨oc_ways_behind_all, od_ways_behind_all, .func (PySem.W.fnOf "ways_behind_all" "ways_behind_all" (defArgs sBehind) (defBody sBehind) (defScope sBehind) .none kV_ways_behind_all dc_ways_behind_all pm_ways_behind_all an_ways_behind_all cd_ways_behind_all ct_ways_behind_all), sl_ways_behind_all⟩) (c_ways_behind_all : PySem.W.codeIn K cd_ways_behind_all "ways_behind_all" = true) (k_ways_behind_all : PySem.W.keepIn K (.ref f_ways_behind_all) = true)
    (a_ways_with_thing : PySem.W.nsIn K mainGlobals "ways_with_thing" = some (some (.ref f_ways_with_thing)))
    (l_ways_with_thing : K.lookup f_ways_with_thing = some ⟨oc_ways_with_thing, od_ways_with_thing, .func (PySem.W.fnOf "ways_with_thing" "ways_with_thing" (defArgs sWith) (defBody sWith) (defScope sWith) .none kV_ways_with_thing dc_ways_with_thing pm_ways_with_thing an_ways_with_thing cd_ways_with_thing ct_ways_with_thing), sl_ways_with_thing⟩) (c_ways_with_thing : PySem.W.codeIn K cd_ways_with_thing "ways_with_thing" = true) (k_ways_with_thing : PySem.W.keepIn K (.ref f_ways_with_thing) = true)
    (a_ways_from_each : PySem.W.nsIn K mainGlobals "ways_from_each" = some (some (.ref f_ways_from_each)))
    (l_ways_from_each : K.lookup f_ways_from_each = some ⟨oc_ways_from_each, od_ways_from_each, .func (PySem.W.fnOf "ways_from_each" "ways_from_each" (defArgs sEach) (defBody sEach) (defScope sEach) .none kV_ways_from_each dc_ways_from_each pm_ways_from_each an_ways_from_each cd_ways_from_each ct_ways_from_each), sl_ways_from_each⟩) (c_ways_from_each : PySem.W.codeIn K cd_ways_from_each "ways_from_each" = true) (k_ways_from_each : PySem.W.keepIn K (.ref f_ways_from_each) = true)
    (a_answers : PySem.W.nsIn K mainGlobals "answers" = some (some (.ref f_answers)))
    (l_answers : K.lookup f_answers = some ⟨oc_answers, od_answers, .func (PySem.W.fnOf "answers" "answers" (defArgs sAns) (defBody sAns) (defScope sAns) .none kV_answers dc_answers pm_answers an_answers cd_answers ct_answers), sl_answers⟩) (c_answers : PySem.W.codeIn K cd_answers "answers" = true) (k_answers : PySem.W.keepIn K (.ref f_answers) = true)
    (a_end_of_call : PySem.W.nsIn K mainGlobals "end_of_call" = some (some (.ref f_end_of_call)))
    (l_end_of_call : K.lookup f_end_of_call = some ⟨oc_end_of_call, od_end_of_call, .func (PySem.W.fnOf "end_of_call" "end_of_call" (defArgs sEnd) (defBody sEnd) (defScope sEnd) .none kV_end_of_call dc_end_of_call pm_end_of_call an_end_of_call cd_end_of_call ct_end_of_call), sl_end_of_call⟩) (c_end_of_call : PySem.W.codeIn K cd_end_of_call "end_of_call" = true) (k_end_of_call : PySem.W.keepIn K (.ref f_end_of_call) = true)
    (a_answer_to : PySem.W.nsIn K mainGlobals "answer_to" = some (some (.ref f_answer_to)))
    (l_answer_to : K.lookup f_answer_to = some ⟨oc_answer_to, od_answer_to, .func (PySem.W.fnOf "answer_to" "answer_to" (defArgs sTo) (defBody sTo) (defScope sTo) .none kV_answer_to dc_answer_to pm_answer_to an_answer_to cd_answer_to ct_answer_to), sl_answer_to⟩) (c_answer_to : PySem.W.codeIn K cd_answer_to "answer_to" = true) (k_answer_to : PySem.W.keepIn K (.ref f_answer_to) = true)
    (a_begin : PySem.W.nsIn K mainGlobals "begin" = some (some (.ref f_begin)))
    (l_begin : K.lookup f_begin = some ⟨oc_begin, od_begin, .func (PySem.W.fnOf "begin" "begin" (defArgs sBegin) (defBody sBegin) (defScope sBegin) .none kV_begin dc_begin pm_begin an_begin cd_begin ct_begin), sl_begin⟩) (c_begin : PySem.W.codeIn K cd_begin "begin" = true) (k_begin : PySem.W.keepIn K (.ref f_begin) = true)
    (a_count : PySem.W.nsIn K mainGlobals "count" = some (some (.ref f_count)))
    (l_count : K.lookup f_count = some ⟨oc_count, od_count, .func (PySem.W.fnOf "count" "count" (defArgs sCount) (defBody sCount) (defScope sCount) .none kV_count dc_count pm_count an_count cd_count ct_count), sl_count⟩) (c_count : PySem.W.codeIn K cd_count "count" = true) (k_count : PySem.W.keepIn K (.ref f_count) = true)
    (a_make : PySem.W.nsIn K mainGlobals "make" = some (some (.ref f_make)))
    (l_make : K.lookup f_make = some ⟨oc_make, od_make, .func (PySem.W.fnOf "make" "make" (defArgs sMake) (defBody sMake) (defScope sMake) .none kV_make dc_make pm_make an_make cd_make ct_make), sl_make⟩) (c_make : PySem.W.codeIn K cd_make "make" = true) (k_make : PySem.W.keepIn K (.ref f_make) = true)
    (a_number : PySem.W.nsIn K mainGlobals "number" = some (some (.ref f_number)))
    (l_number : K.lookup f_number = some ⟨oc_number, od_number, .func (PySem.W.fnOf "number" "number" (defArgs sNumber) (defBody sNumber) (defScope sNumber) .none kV_number dc_number pm_number an_number cd_number ct_number), sl_number⟩) (c_number : PySem.W.codeIn K cd_number "number" = true) (k_number : PySem.W.keepIn K (.ref f_number) = true)
    (a_list_all : PySem.W.nsIn K mainGlobals "list_all" = some (some (.ref f_list_all)))
    (l_list_all : K.lookup f_list_all = some ⟨oc_list_all, od_list_all, .func (PySem.W.fnOf "list_all" "list_all" (defArgs sList) (defBody sList) (defScope sList) .none kV_list_all dc_list_all pm_list_all an_list_all cd_list_all ct_list_all), sl_list_all⟩) (c_list_all : PySem.W.codeIn K cd_list_all "list_all" = true) (k_list_all : PySem.W.keepIn K (.ref f_list_all) = true)
    (a_set_told : PySem.W.nsIn K mainGlobals "set_told" = some (some (.ref f_set_told)))
    (l_set_told : K.lookup f_set_told = some ⟨oc_set_told, od_set_told, .func (PySem.W.fnOf "set_told" "set_told" (defArgs sTold) (defBody sTold) (defScope sTold) .none kV_set_told dc_set_told pm_set_told an_set_told cd_set_told ct_set_told), sl_set_told⟩) (c_set_told : PySem.W.codeIn K cd_set_told "set_told" = true) (k_set_told : PySem.W.keepIn K (.ref f_set_told) = true)
    (a_size_of : PySem.W.nsIn K mainGlobals "size_of" = some (some (.ref f_size_of)))
    (l_size_of : K.lookup f_size_of = some ⟨oc_size_of, od_size_of, .func (PySem.W.fnOf "size_of" "size_of" (defArgs sSizeOf) (defBody sSizeOf) (defScope sSizeOf) .none kV_size_of dc_size_of pm_size_of an_size_of cd_size_of ct_size_of), sl_size_of⟩) (c_size_of : PySem.W.codeIn K cd_size_of "size_of" = true) (k_size_of : PySem.W.keepIn K (.ref f_size_of) = true)
    (a_refusal_of_things : PySem.W.nsIn K mainGlobals "refusal_of_things" = some (some (.ref f_refusal_of_things)))
    (l_refusal_of_things : K.lookup f_refusal_of_things = some ⟨oc_refusal_of_things, od_refusal_of_things, .func (PySem.W.fnOf "refusal_of_things" "refusal_of_things" (defArgs sRef) (defBody sRef) (defScope sRef) .none kV_refusal_of_things dc_refusal_of_things pm_refusal_of_things an_refusal_of_things cd_refusal_of_things ct_refusal_of_things), sl_refusal_of_things⟩) (c_refusal_of_things : PySem.W.codeIn K cd_refusal_of_things "refusal_of_things" = true) (k_refusal_of_things : PySem.W.keepIn K (.ref f_refusal_of_things) = true)
    (a_next_set : PySem.W.nsIn K mainGlobals "next_set" = some (some (.ref f_next_set)))
    (l_next_set : K.lookup f_next_set = some ⟨oc_next_set, od_next_set, .func (PySem.W.fnOf "next_set" "next_set" (defArgs sNext) (defBody sNext) (defScope sNext) .none kV_next_set dc_next_set pm_next_set an_next_set cd_next_set ct_next_set), sl_next_set⟩) (c_next_set : PySem.W.codeIn K cd_next_set "next_set" = true) (k_next_set : PySem.W.keepIn K (.ref f_next_set) = true)
    (a_answer_about_parts : PySem.W.nsIn K mainGlobals "answer_about_parts" = some (some (.ref f_answer_about_parts)))
    (l_answer_about_parts : K.lookup f_answer_about_parts = some ⟨oc_answer_about_parts, od_answer_about_parts, .func (PySem.W.fnOf "answer_about_parts" "answer_about_parts" (defArgs sAbout) (defBody sAbout) (defScope sAbout) .none kV_answer_about_parts dc_answer_about_parts pm_answer_about_parts an_answer_about_parts cd_answer_about_parts ct_answer_about_parts), sl_answer_about_parts⟩) (c_answer_about_parts : PySem.W.codeIn K cd_answer_about_parts "answer_about_parts" = true) (k_answer_about_parts : PySem.W.keepIn K (.ref f_answer_about_parts) = true)
    (a_parts_told : PySem.W.nsIn K mainGlobals "parts_told" = some (some (.ref f_parts_told)))
    (l_parts_told : K.lookup f_parts_told = some ⟨oc_parts_told, od_parts_told, .func (PySem.W.fnOf "parts_told" "parts_told" (defArgs sPT) (defBody sPT) (defScope sPT) .none kV_parts_told dc_parts_told pm_parts_told an_parts_told cd_parts_told ct_parts_told), sl_parts_told⟩) (c_parts_told : PySem.W.codeIn K cd_parts_told "parts_told" = true) (k_parts_told : PySem.W.keepIn K (.ref f_parts_told) = true)
    (a_is_partition : PySem.W.nsIn K mainGlobals "is_partition" = some (some (.ref f_is_partition)))
    (l_is_partition : K.lookup f_is_partition = some ⟨oc_is_partition, od_is_partition, .func (PySem.W.fnOf "is_partition" "is_partition" (defArgs sIsP) (defBody sIsP) (defScope sIsP) .none kV_is_partition dc_is_partition pm_is_partition an_is_partition cd_is_partition ct_is_partition), sl_is_partition⟩) (c_is_partition : PySem.W.codeIn K cd_is_partition "is_partition" = true) (k_is_partition : PySem.W.keepIn K (.ref f_is_partition) = true)
    (a_has_equal_parts : PySem.W.nsIn K mainGlobals "has_equal_parts" = some (some (.ref f_has_equal_parts)))
    (l_has_equal_parts : K.lookup f_has_equal_parts = some ⟨oc_has_equal_parts, od_has_equal_parts, .func (PySem.W.fnOf "has_equal_parts" "has_equal_parts" (defArgs sEq) (defBody sEq) (defScope sEq) .none kV_has_equal_parts dc_has_equal_parts pm_has_equal_parts an_has_equal_parts cd_has_equal_parts ct_has_equal_parts), sl_has_equal_parts⟩) (c_has_equal_parts : PySem.W.codeIn K cd_has_equal_parts "has_equal_parts" = true) (k_has_equal_parts : PySem.W.keepIn K (.ref f_has_equal_parts) = true)
    (a_has_even_part : PySem.W.nsIn K mainGlobals "has_even_part" = some (some (.ref f_has_even_part)))
    (l_has_even_part : K.lookup f_has_even_part = some ⟨oc_has_even_part, od_has_even_part, .func (PySem.W.fnOf "has_even_part" "has_even_part" (defArgs sEven) (defBody sEven) (defScope sEven) .none kV_has_even_part dc_has_even_part pm_has_even_part an_has_even_part cd_has_even_part ct_has_even_part), sl_has_even_part⟩) (c_has_even_part : PySem.W.codeIn K cd_has_even_part "has_even_part" = true) (k_has_even_part : PySem.W.keepIn K (.ref f_has_even_part) = true)
    (a_turned_about : PySem.W.nsIn K mainGlobals "turned_about" = some (some (.ref f_turned_about)))
    (l_turned_about : K.lookup f_turned_about = some ⟨oc_turned_about, od_turned_about, .func (PySem.W.fnOf "turned_about" "turned_about" (defArgs sTurn) (defBody sTurn) (defScope sTurn) .none kV_turned_about dc_turned_about pm_turned_about an_turned_about cd_turned_about ct_turned_about), sl_turned_about⟩) (c_turned_about : PySem.W.codeIn K cd_turned_about "turned_about" = true) (k_turned_about : PySem.W.keepIn K (.ref f_turned_about) = true)
    (a_how_many_reach : PySem.W.nsIn K mainGlobals "how_many_reach" = some (some (.ref f_how_many_reach)))
    (l_how_many_reach : K.lookup f_how_many_reach = some ⟨oc_how_many_reach, od_how_many_reach, .func (PySem.W.fnOf "how_many_reach" "how_many_reach" (defArgs sReach) (defBody sReach) (defScope sReach) .none kV_how_many_reach dc_how_many_reach pm_how_many_reach an_how_many_reach cd_how_many_reach ct_how_many_reach), sl_how_many_reach⟩) (c_how_many_reach : PySem.W.codeIn K cd_how_many_reach "how_many_reach" = true) (k_how_many_reach : PySem.W.keepIn K (.ref f_how_many_reach) = true)
    (a_square_of : PySem.W.nsIn K mainGlobals "square_of" = some (some (.ref f_square_of)))
    (l_square_of : K.lookup f_square_of = some ⟨oc_square_of, od_square_of, .func (PySem.W.fnOf "square_of" "square_of" (defArgs sSqr) (defBody sSqr) (defScope sSqr) .none kV_square_of dc_square_of pm_square_of an_square_of cd_square_of ct_square_of), sl_square_of⟩) (c_square_of : PySem.W.codeIn K cd_square_of "square_of" = true) (k_square_of : PySem.W.keepIn K (.ref f_square_of) = true)
    (a_diagonal_of : PySem.W.nsIn K mainGlobals "diagonal_of" = some (some (.ref f_diagonal_of)))
    (l_diagonal_of : K.lookup f_diagonal_of = some ⟨oc_diagonal_of, od_diagonal_of, .func (PySem.W.fnOf "diagonal_of" "diagonal_of" (defArgs sDiag) (defBody sDiag) (defScope sDiag) .none kV_diagonal_of dc_diagonal_of pm_diagonal_of an_diagonal_of cd_diagonal_of ct_diagonal_of), sl_diagonal_of⟩) (c_diagonal_of : PySem.W.codeIn K cd_diagonal_of "diagonal_of" = true) (k_diagonal_of : PySem.W.keepIn K (.ref f_diagonal_of) = true)
    (a_to_odd_parts : PySem.W.nsIn K mainGlobals "to_odd_parts" = some (some (.ref f_to_odd_parts)))
    (l_to_odd_parts : K.lookup f_to_odd_parts = some ⟨oc_to_odd_parts, od_to_odd_parts, .func (PySem.W.fnOf "to_odd_parts" "to_odd_parts" (defArgs sToOdd) (defBody sToOdd) (defScope sToOdd) .none kV_to_odd_parts dc_to_odd_parts pm_to_odd_parts an_to_odd_parts cd_to_odd_parts ct_to_odd_parts), sl_to_odd_parts⟩) (c_to_odd_parts : PySem.W.codeIn K cd_to_odd_parts "to_odd_parts" = true) (k_to_odd_parts : PySem.W.keepIn K (.ref f_to_odd_parts) = true)
    (a_odd_number_in : PySem.W.nsIn K mainGlobals "odd_number_in" = some (some (.ref f_odd_number_in)))
    (l_odd_number_in : K.lookup f_odd_number_in = some ⟨oc_odd_number_in, od_odd_number_in, .func (PySem.W.fnOf "odd_number_in" "odd_number_in" (defArgs sOddIn) (defBody sOddIn) (defScope sOddIn) .none kV_odd_number_in dc_odd_number_in pm_odd_number_in an_odd_number_in cd_odd_number_in ct_odd_number_in), sl_odd_number_in⟩) (c_odd_number_in : PySem.W.codeIn K cd_odd_number_in "odd_number_in" = true) (k_odd_number_in : PySem.W.keepIn K (.ref f_odd_number_in) = true)
    (a_to_different_parts : PySem.W.nsIn K mainGlobals "to_different_parts" = some (some (.ref f_to_different_parts)))
    (l_to_different_parts : K.lookup f_to_different_parts = some ⟨oc_to_different_parts, od_to_different_parts, .func (PySem.W.fnOf "to_different_parts" "to_different_parts" (defArgs sToDiff) (defBody sToDiff) (defScope sToDiff) .none kV_to_different_parts dc_to_different_parts pm_to_different_parts an_to_different_parts cd_to_different_parts ct_to_different_parts), sl_to_different_parts⟩) (c_to_different_parts : PySem.W.codeIn K cd_to_different_parts "to_different_parts" = true) (k_to_different_parts : PySem.W.keepIn K (.ref f_to_different_parts) = true)
    (a_powers_in : PySem.W.nsIn K mainGlobals "powers_in" = some (some (.ref f_powers_in)))
    (l_powers_in : K.lookup f_powers_in = some ⟨oc_powers_in, od_powers_in, .func (PySem.W.fnOf "powers_in" "powers_in" (defArgs sPow) (defBody sPow) (defScope sPow) .none kV_powers_in dc_powers_in pm_powers_in an_powers_in cd_powers_in ct_powers_in), sl_powers_in⟩) (c_powers_in : PySem.W.codeIn K cd_powers_in "powers_in" = true) (k_powers_in : PySem.W.keepIn K (.ref f_powers_in) = true)
    (a_init : PySem.W.findIn K (.ref C) "__init__" = some (some (.ref f_init))) (i_init : PySem.W.isFn K (.ref f_init) = true)
    (l_init : K.lookup f_init = some ⟨oc_init, od_init, .func (PySem.W.fnOf "__init__" "SizedSets.__init__" (defArgs sInit) (defBody sInit) (defScope sInit) .none kV_init dc_init pm_init an_init cd_init ct_init), sl_init⟩) (c_init : PySem.W.codeIn K cd_init "SizedSets.__init__" = true) (k_init : PySem.W.keepIn K (.ref f_init) = true)
    (a_how_many : PySem.W.findIn K (.ref C) "how_many" = some (some (.ref f_how_many))) (i_how_many : PySem.W.isFn K (.ref f_how_many) = true)
    (l_how_many : K.lookup f_how_many = some ⟨oc_how_many, od_how_many, .func (PySem.W.fnOf "how_many" "SizedSets.how_many" (defArgs sHow) (defBody sHow) (defScope sHow) .none kV_how_many dc_how_many pm_how_many an_how_many cd_how_many ct_how_many), sl_how_many⟩) (c_how_many : PySem.W.codeIn K cd_how_many "SizedSets.how_many" = true) (k_how_many : PySem.W.keepIn K (.ref f_how_many) = true)
    (a_how_many_take : PySem.W.findIn K (.ref C) "how_many_take" = some (some (.ref f_how_many_take))) (i_how_many_take : PySem.W.isFn K (.ref f_how_many_take) = true)
    (l_how_many_take : K.lookup f_how_many_take = some ⟨oc_how_many_take, od_how_many_take, .func (PySem.W.fnOf "how_many_take" "SizedSets.how_many_take" (defArgs sTake) (defBody sTake) (defScope sTake) .none kV_how_many_take dc_how_many_take pm_how_many_take an_how_many_take cd_how_many_take ct_how_many_take), sl_how_many_take⟩) (c_how_many_take : PySem.W.codeIn K cd_how_many_take "SizedSets.how_many_take" = true) (k_how_many_take : PySem.W.keepIn K (.ref f_how_many_take) = true)
    (a_set_at : PySem.W.findIn K (.ref C) "set_at" = some (some (.ref f_set_at))) (i_set_at : PySem.W.isFn K (.ref f_set_at) = true)
    (l_set_at : K.lookup f_set_at = some ⟨oc_set_at, od_set_at, .func (PySem.W.fnOf "set_at" "SizedSets.set_at" (defArgs sAt) (defBody sAt) (defScope sAt) .none kV_set_at dc_set_at pm_set_at an_set_at cd_set_at ct_set_at), sl_set_at⟩) (c_set_at : PySem.W.codeIn K cd_set_at "SizedSets.set_at" = true) (k_set_at : PySem.W.keepIn K (.ref f_set_at) = true)
    (a_number_of : PySem.W.findIn K (.ref C) "number_of" = some (some (.ref f_number_of))) (i_number_of : PySem.W.isFn K (.ref f_number_of) = true)
    (l_number_of : K.lookup f_number_of = some ⟨oc_number_of, od_number_of, .func (PySem.W.fnOf "number_of" "SizedSets.number_of" (defArgs sNum) (defBody sNum) (defScope sNum) .none kV_number_of dc_number_of pm_number_of an_number_of cd_number_of ct_number_of), sl_number_of⟩) (c_number_of : PySem.W.codeIn K cd_number_of "SizedSets.number_of" = true) (k_number_of : PySem.W.keepIn K (.ref f_number_of) = true)
    (pg : PySem.W.plainGet K C Str.empty = true) (hd : PySem.W.hasDictIn K C = true) (po : PySem.W.plainOver K C = true) (sa : PySem.W.findIn K (.ref C) "__setattr__" = some (some (.builtin "object.__setattr__"))) (mk : PySem.W.makesIn K C = true) (kc : PySem.W.keepIn K (.ref C) = true)
    (n_row : PySem.W.findIn K (.ref C) "row" = some none)
    (n_repeats : PySem.W.findIn K (.ref C) "repeats" = some none)
    (n_size : PySem.W.findIn K (.ref C) "size" = some none)
    (n_ways : PySem.W.findIn K (.ref C) "ways" = some none)
    (g_MOST_SIZES : PySem.W.nsIn K mainGlobals "MOST_SIZES" = some (some (.int 60 t_MOST_SIZES)))
    (g_MOST_THINGS : PySem.W.nsIn K mainGlobals "MOST_THINGS" = some (some (.int 60 t_MOST_THINGS)))
    (g_MOST_SIZE : PySem.W.nsIn K mainGlobals "MOST_SIZE" = some (some (.int 60 t_MOST_SIZE)))
    (g_MOST_SETS : PySem.W.nsIn K mainGlobals "MOST_SETS" = some (some (.int 1000000000000000000 t_MOST_SETS)))
    (g_MOST_LISTED : PySem.W.nsIn K mainGlobals "MOST_LISTED" = some (some (.int 200 t_MOST_LISTED)))
    (g_OUT_OF_BOUNDS : PySem.W.nsIn K mainGlobals "OUT_OF_BOUNDS" = some (some (.int (-1) t_OUT_OF_BOUNDS)))
    (g_NO_SUCH_SET : PySem.W.nsIn K mainGlobals "NO_SUCH_SET" = some (some (.int (-3) t_NO_SUCH_SET)))
    (g_TOO_LONG_A_LIST : PySem.W.nsIn K mainGlobals "TOO_LONG_A_LIST" = some (some (.int (-5) t_TOO_LONG_A_LIST)))
    (g_TOO_MANY_SETS : PySem.W.nsIn K mainGlobals "TOO_MANY_SETS" = some (some (.int (-7) t_TOO_MANY_SETS)))
    (g_BEGIN : PySem.W.nsIn K mainGlobals "BEGIN" = some (some (.int 1 t_BEGIN)))
    (g_COUNT : PySem.W.nsIn K mainGlobals "COUNT" = some (some (.int 2 t_COUNT)))
    (g_MAKE : PySem.W.nsIn K mainGlobals "MAKE" = some (some (.int 3 t_MAKE)))
    (g_NUMBER : PySem.W.nsIn K mainGlobals "NUMBER" = some (some (.int 4 t_NUMBER)))
    (g_LIST : PySem.W.nsIn K mainGlobals "LIST" = some (some (.int 5 t_LIST)))
    (g_NEXT : PySem.W.nsIn K mainGlobals "NEXT" = some (some (.int 6 t_NEXT)))
    (g_TURN : PySem.W.nsIn K mainGlobals "TURN" = some (some (.int 7 t_TURN)))
    (g_ODD : PySem.W.nsIn K mainGlobals "ODD" = some (some (.int 8 t_ODD)))
    (g_ONCE : PySem.W.nsIn K mainGlobals "ONCE" = some (some (.int 9 t_ONCE)))
    (g_NO_SUCH_PARTITION : PySem.W.nsIn K mainGlobals "NO_SUCH_PARTITION" = some (some (.int (-3) t_NO_SUCH_PARTITION)))
    (g_WRONG_PARTS : PySem.W.nsIn K mainGlobals "WRONG_PARTS" = some (some (.int (-4) t_WRONG_PARTS)))
    (g_LAST_SET : PySem.W.nsIn K mainGlobals "LAST_SET" = some (some (.int (-6) t_LAST_SET)))
    (g_MOST_TOGETHER : PySem.W.nsIn K mainGlobals "MOST_TOGETHER" = some (some (.int 60 t_MOST_TOGETHER)))
    (z_len : PySem.W.nsIn K mainGlobals "len" = some none)
    (z_range : PySem.W.nsIn K mainGlobals "range" = some none)
    (z_sum : PySem.W.nsIn K mainGlobals "sum" = some none)
    (z_enumerate : PySem.W.nsIn K mainGlobals "enumerate" = some none)
    (z_reversed : PySem.W.nsIn K mainGlobals "reversed" = some none)
    (z_any : PySem.W.nsIn K mainGlobals "any" = some none)
    (z_max : PySem.W.nsIn K mainGlobals "max" = some none)
    (z_sorted : PySem.W.nsIn K mainGlobals "sorted" = some none)
    (aD : PySem.W.nsIn K mainGlobals "PLAIN_NUMBERS" = some (some (.ref dA))) (lD : K.lookup dA = some ⟨.type "dict", none, .dict dE dN, #[]⟩) (eD : entsI dE.toList = some [(1, 0), (2, 4), (3, 5), (4, 3), (5, 4), (6, 3), (7, 0), (8, 0), (9, 0), (10, 0)])
    (aT : PySem.W.nsIn K mainGlobals "CALLS_WITH_LIST" = some (some (.ref tA))) (lT : K.lookup tA = some ⟨.type "tuple", tD, .seq #[.int 1 u0, .int 4 u1, .int 6 u2, .int 7 u3, .int 8 u4, .int 9 u5, .int 10 u6] tM, tS⟩) :
    ∃ fd : FuncData, (∀ (s : Shared) (us : List Value), us.length = (["calls"] : List Str).length → BindsTo s fd ⟨us, []⟩ ((["calls"] : List Str).zip us)) ∧ ∀ base : Heap, K.In base → base.Ns mainGlobals mg → FnOk P w K mg base CX0 7 fa fd ["calls"] (spAns K) := by
  have e := hfa.symm.trans (PySem.W.mg_of X G a_answers)
  cases e
  have F_row_of := fun_mk (st := sRow) l_row_of c_row_of k_row_of
  have b_row_of := F_row_of.binds (ps := ["how_many"]) fun _ _ _ _ _ _ us hl => match us, hl with | [_], _ => rfl
  have g_row_of := PySem.W.mg_of X G a_row_of
  have F_things_of := fun_mk (st := sThings) l_things_of c_things_of k_things_of
  have b_things_of := F_things_of.binds (ps := ["numbers"]) fun _ _ _ _ _ _ us hl => match us, hl with | [_], _ => rfl
  have g_things_of := PySem.W.mg_of X G a_things_of
  have F_places_of := fun_mk (st := sPlaces) l_places_of c_places_of k_places_of
  have b_places_of := F_places_of.binds (ps := ["row", "things"]) fun _ _ _ _ _ _ us hl => match us, hl with | [_, _], _ => rfl
  have g_places_of := PySem.W.mg_of X G a_places_of
  have F_are_in_order := fun_mk (st := sOrd) l_are_in_order c_are_in_order k_are_in_order
  have b_are_in_order := F_are_in_order.binds (ps := ["places", "repeats"]) fun _ _ _ _ _ _ us hl => match us, hl with | [_, _], _ => rfl
  have g_are_in_order := PySem.W.mg_of X G a_are_in_order
  have F_ways_behind_all := fun_mk (st := sBehind) l_ways_behind_all c_ways_behind_all k_ways_behind_all
  have b_ways_behind_all := F_ways_behind_all.binds (ps := ["size", "lo", "hi"]) fun _ _ _ _ _ _ us hl => match us, hl with | [_, _, _], _ => rfl
  have g_ways_behind_all := PySem.W.mg_of X G a_ways_behind_all
  have F_ways_with_thing := fun_mk (st := sWith) l_ways_with_thing c_ways_with_thing k_ways_with_thing
  have b_ways_with_thing := F_ways_with_thing.binds (ps := ["later", "weight", "repeats"]) fun _ _ _ _ _ _ us hl => match us, hl with | [_, _, _], _ => rfl
  have g_ways_with_thing := PySem.W.mg_of X G a_ways_with_thing
  have F_ways_from_each := fun_mk (st := sEach) l_ways_from_each c_ways_from_each k_ways_from_each
  have b_ways_from_each := F_ways_from_each.binds (ps := ["row", "repeats", "size", "lo", "hi"]) fun _ _ _ _ _ _ us hl => match us, hl with | [_, _, _, _, _], _ => rfl
  have g_ways_from_each := PySem.W.mg_of X G a_ways_from_each
  have F_answers := fun_mk (st := sAns) l_answers c_answers k_answers
  have b_answers := F_answers.binds (ps := ["calls"]) fun _ _ _ _ _ _ us hl => match us, hl with | [_], _ => rfl
  have g_answers := PySem.W.mg_of X G a_answers
  have F_end_of_call := fun_mk (st := sEnd) l_end_of_call c_end_of_call k_end_of_call
  have b_end_of_call := F_end_of_call.binds (ps := ["calls", "at"]) fun _ _ _ _ _ _ us hl => match us, hl with | [_, _], _ => rfl
  have g_end_of_call := PySem.W.mg_of X G a_end_of_call
  have F_answer_to := fun_mk (st := sTo) l_answer_to c_answer_to k_answer_to
  have b_answer_to := F_answer_to.binds (ps := ["row", "call"]) fun _ _ _ _ _ _ us hl => match us, hl with | [_, _], _ => rfl
  have g_answer_to := PySem.W.mg_of X G a_answer_to
  have F_begin := fun_mk (st := sBegin) l_begin c_begin k_begin
  have b_begin := F_begin.binds (ps := ["how_many"]) fun _ _ _ _ _ _ us hl => match us, hl with | [_], _ => rfl
  have g_begin := PySem.W.mg_of X G a_begin
  have F_count := fun_mk (st := sCount) l_count c_count k_count
  have b_count := F_count.binds (ps := ["row", "repeats", "size", "lo", "hi"]) fun _ _ _ _ _ _ us hl => match us, hl with | [_, _, _, _, _], _ => rfl
  have g_count := PySem.W.mg_of X G a_count
  have F_make := fun_mk (st := sMake) l_make c_make k_make
  have b_make := F_make.binds (ps := ["row", "repeats", "size", "lo", "hi", "k"]) fun _ _ _ _ _ _ us hl => match us, hl with | [_, _, _, _, _, _], _ => rfl
  have g_make := PySem.W.mg_of X G a_make
  have F_number := fun_mk (st := sNumber) l_number c_number k_number
  have b_number := F_number.binds (ps := ["row", "repeats", "lo", "hi", "numbers"]) fun _ _ _ _ _ _ us hl => match us, hl with | [_, _, _, _, _], _ => rfl
  have g_number := PySem.W.mg_of X G a_number
  have F_list_all := fun_mk (st := sList) l_list_all c_list_all k_list_all
  have b_list_all := F_list_all.binds (ps := ["row", "repeats", "size", "lo", "hi"]) fun _ _ _ _ _ _ us hl => match us, hl with | [_, _, _, _, _], _ => rfl
  have g_list_all := PySem.W.mg_of X G a_list_all
  have F_set_told := fun_mk (st := sTold) l_set_told c_set_told k_set_told
  have b_set_told := F_set_told.binds (ps := ["things"]) fun _ _ _ _ _ _ us hl => match us, hl with | [_], _ => rfl
  have g_set_told := PySem.W.mg_of X G a_set_told
  have F_size_of := fun_mk (st := sSizeOf) l_size_of c_size_of k_size_of
  have b_size_of := F_size_of.binds (ps := ["things"]) fun _ _ _ _ _ _ us hl => match us, hl with | [_], _ => rfl
  have g_size_of := PySem.W.mg_of X G a_size_of
  have F_refusal_of_things := fun_mk (st := sRef) l_refusal_of_things c_refusal_of_things k_refusal_of_things
  have b_refusal_of_things := F_refusal_of_things.binds (ps := ["row", "repeats", "lo", "hi", "numbers"]) fun _ _ _ _ _ _ us hl => match us, hl with | [_, _, _, _, _], _ => rfl
  have g_refusal_of_things := PySem.W.mg_of X G a_refusal_of_things
  have F_next_set := fun_mk (st := sNext) l_next_set c_next_set k_next_set
  have b_next_set := F_next_set.binds (ps := ["row", "repeats", "lo", "hi", "numbers"]) fun _ _ _ _ _ _ us hl => match us, hl with | [_, _, _, _, _], _ => rfl
  have g_next_set := PySem.W.mg_of X G a_next_set
  have F_answer_about_parts := fun_mk (st := sAbout) l_answer_about_parts c_answer_about_parts k_answer_about_parts
  have b_answer_about_parts := F_answer_about_parts.binds (ps := ["asked", "parts"]) fun _ _ _ _ _ _ us hl => match us, hl with | [_, _], _ => rfl
  have g_answer_about_parts := PySem.W.mg_of X G a_answer_about_parts
  have F_parts_told := fun_mk (st := sPT) l_parts_told c_parts_told k_parts_told
  have b_parts_told := F_parts_told.binds (ps := ["parts"]) fun _ _ _ _ _ _ us hl => match us, hl with | [_], _ => rfl
  have g_parts_told := PySem.W.mg_of X G a_parts_told
  have F_is_partition := fun_mk (st := sIsP) l_is_partition c_is_partition k_is_partition
  have b_is_partition := F_is_partition.binds (ps := ["parts"]) fun _ _ _ _ _ _ us hl => match us, hl with | [_], _ => rfl
  have g_is_partition := PySem.W.mg_of X G a_is_partition
  have F_has_equal_parts := fun_mk (st := sEq) l_has_equal_parts c_has_equal_parts k_has_equal_parts
  have b_has_equal_parts := F_has_equal_parts.binds (ps := ["parts"]) fun _ _ _ _ _ _ us hl => match us, hl with | [_], _ => rfl
  have g_has_equal_parts := PySem.W.mg_of X G a_has_equal_parts
  have F_has_even_part := fun_mk (st := sEven) l_has_even_part c_has_even_part k_has_even_part
  have b_has_even_part := F_has_even_part.binds (ps := ["parts"]) fun _ _ _ _ _ _ us hl => match us, hl with | [_], _ => rfl
  have g_has_even_part := PySem.W.mg_of X G a_has_even_part
  have F_turned_about := fun_mk (st := sTurn) l_turned_about c_turned_about k_turned_about
  have b_turned_about := F_turned_about.binds (ps := ["parts"]) fun _ _ _ _ _ _ us hl => match us, hl with | [_], _ => rfl
  have g_turned_about := PySem.W.mg_of X G a_turned_about
  have F_how_many_reach := fun_mk (st := sReach) l_how_many_reach c_how_many_reach k_how_many_reach
  have b_how_many_reach := F_how_many_reach.binds (ps := ["parts", "least"]) fun _ _ _ _ _ _ us hl => match us, hl with | [_, _], _ => rfl
  have g_how_many_reach := PySem.W.mg_of X G a_how_many_reach
  have F_square_of := fun_mk (st := sSqr) l_square_of c_square_of k_square_of
  have b_square_of := F_square_of.binds (ps := ["parts"]) fun _ _ _ _ _ _ us hl => match us, hl with | [_], _ => rfl
  have g_square_of := PySem.W.mg_of X G a_square_of
  have F_diagonal_of := fun_mk (st := sDiag) l_diagonal_of c_diagonal_of k_diagonal_of
  have b_diagonal_of := F_diagonal_of.binds (ps := ["parts"]) fun _ _ _ _ _ _ us hl => match us, hl with | [_], _ => rfl
  have g_diagonal_of := PySem.W.mg_of X G a_diagonal_of
  have F_to_odd_parts := fun_mk (st := sToOdd) l_to_odd_parts c_to_odd_parts k_to_odd_parts
  have b_to_odd_parts := F_to_odd_parts.binds (ps := ["parts"]) fun _ _ _ _ _ _ us hl => match us, hl with | [_], _ => rfl
  have g_to_odd_parts := PySem.W.mg_of X G a_to_odd_parts
  have F_odd_number_in := fun_mk (st := sOddIn) l_odd_number_in c_odd_number_in k_odd_number_in
  have b_odd_number_in := F_odd_number_in.binds (ps := ["part"]) fun _ _ _ _ _ _ us hl => match us, hl with | [_], _ => rfl
  have g_odd_number_in := PySem.W.mg_of X G a_odd_number_in
  have F_to_different_parts := fun_mk (st := sToDiff) l_to_different_parts c_to_different_parts k_to_different_parts
  have b_to_different_parts := F_to_different_parts.binds (ps := ["parts"]) fun _ _ _ _ _ _ us hl => match us, hl with | [_], _ => rfl
  have g_to_different_parts := PySem.W.mg_of X G a_to_different_parts
  have F_powers_in := fun_mk (st := sPow) l_powers_in c_powers_in k_powers_in
  have b_powers_in := F_powers_in.binds (ps := ["many"]) fun _ _ _ _ _ _ us hl => match us, hl with | [_], _ => rfl
  have g_powers_in := PySem.W.mg_of X G a_powers_in
  have F_init := fun_mk (st := sInit) l_init c_init k_init
  have b_init := F_init.binds (ps := ["self", "row", "repeats", "size", "lo", "hi"]) fun _ _ _ _ _ _ us hl => match us, hl with | [_, _, _, _, _, _], _ => rfl
  have F_how_many := fun_mk (st := sHow) l_how_many c_how_many k_how_many
  have b_how_many := F_how_many.binds (ps := ["self"]) fun _ _ _ _ _ _ us hl => match us, hl with | [_], _ => rfl
  have F_how_many_take := fun_mk (st := sTake) l_how_many_take c_how_many_take k_how_many_take
  have b_how_many_take := F_how_many_take.binds (ps := ["self", "place", "left", "used"]) fun _ _ _ _ _ _ us hl => match us, hl with | [_, _, _, _], _ => rfl
  have F_set_at := fun_mk (st := sAt) l_set_at c_set_at k_set_at
  have b_set_at := F_set_at.binds (ps := ["self", "k"]) fun _ _ _ _ _ _ us hl => match us, hl with | [_, _], _ => rfl
  have F_number_of := fun_mk (st := sNum) l_number_of c_number_of k_number_of
  have b_number_of := F_number_of.binds (ps := ["self", "places"]) fun _ _ _ _ _ _ us hl => match us, hl with | [_, _], _ => rfl
  have T : TxtC mg := ⟨PySem.W.mg_none_of X G z_len, PySem.W.mg_none_of X G z_range, PySem.W.mg_none_of X G z_sum, PySem.W.mg_none_of X G z_enumerate, PySem.W.mg_none_of X G z_reversed, ⟨_, PySem.W.mg_of X G g_MOST_SIZES⟩, ⟨_, PySem.W.mg_of X G g_MOST_THINGS⟩, ⟨_, PySem.W.mg_of X G g_MOST_SIZE⟩, ⟨_, PySem.W.mg_of X G g_MOST_SETS⟩, ⟨_, PySem.W.mg_of X G g_MOST_LISTED⟩, ⟨_, PySem.W.mg_of X G g_OUT_OF_BOUNDS⟩, ⟨_, PySem.W.mg_of X G g_NO_SUCH_SET⟩, ⟨_, PySem.W.mg_of X G g_TOO_LONG_A_LIST⟩, ⟨_, PySem.W.mg_of X G g_TOO_MANY_SETS⟩⟩
  have S : TxtS K mg C := ⟨⟨pg, hd, po, sa⟩, n_row, n_repeats, n_size, n_ways, PySem.W.mg_of X G aC⟩
  refine ⟨PySem.W.fnOf "answers" "answers" (defArgs sAns) (defBody sAns) (defScope sAns) .none kV_answers dc_answers pm_answers an_answers cd_answers ct_answers, fun s us hu => match us, hu with | [_], _ => .of_eq rfl, fun base _ _ => ?_⟩
  have G_row : FnOk P w K mg base CX0 1 f_row_of _ ["how_many"] (spRow K) := ok_row F_row_of T.enumerate T.range
  have G_beh : FnOk P w K mg base CX0 1 f_ways_behind_all _ ["size", "lo", "hi"] spBehind := ok_behind F_ways_behind_all T.range
  have G_with : FnOk P w K mg base CX0 1 f_ways_with_thing _ ["later", "weight", "repeats"] spWith := ok_with F_ways_with_thing T.range T.len
  have G_each : FnOk P w K mg base CX0 2 f_ways_from_each _ ["row", "repeats", "size", "lo", "hi"] spEach := ok_each F_ways_from_each T.reversed G_beh g_ways_behind_all k_ways_behind_all b_ways_behind_all G_with g_ways_with_thing k_ways_with_thing b_ways_with_thing
  have G_init : FnOk P w K mg base CX0 3 f_init _ ["self", "row", "repeats", "size", "lo", "hi"] (spInit C) := ok_init F_init S G_each g_ways_from_each k_ways_from_each b_ways_from_each
  have G_how : FnOk P w K mg base CX0 1 f_how_many _ ["self"] (spHow C) := ok_how F_how_many S
  have G_take : FnOk P w K mg base CX0 1 f_how_many_take _ ["self", "place", "left", "used"] (spTake C) := ok_take F_how_many_take S
  have M_take : Meth K C "how_many_take" f_how_many_take := ⟨a_how_many_take, i_how_many_take, k_how_many_take⟩
  have G_at : FnOk P w K mg base CX0 2 f_set_at _ ["self", "k"] (spAt C) := ok_at F_set_at S T.len G_take M_take b_how_many_take
  have G_num : FnOk P w K mg base CX0 2 f_number_of _ ["self", "places"] (spNum C) := ok_num F_number_of S T.enumerate T.range G_take M_take b_how_many_take
  have G_told : FnOk P w K mg base CX0 1 f_set_told _ ["things"] spTold := ok_told F_set_told T.len
  have E1 : Env1 P w K mg base C 0 := ⟨S, T, ⟨f_init, _, ⟨mk, a_init, i_init, kc⟩, G_init, b_init⟩, ⟨f_how_many, _, ⟨a_how_many, i_how_many, k_how_many⟩, G_how, b_how_many⟩, ⟨f_set_at, _, ⟨a_set_at, i_set_at, k_set_at⟩, G_at, b_set_at⟩, ⟨f_number_of, _, ⟨a_number_of, i_number_of, k_number_of⟩, G_num, b_number_of⟩, ⟨f_set_told, _, g_set_told, k_set_told, G_told, b_set_told⟩⟩
  have E2 : Env2 P w K mg base 0 := ⟨⟨f_things_of, _, g_things_of, k_things_of, ok_things F_things_of T.len T.range, b_things_of⟩, ⟨f_places_of, _, g_places_of, k_places_of, ok_places F_places_of T.enumerate, b_places_of⟩, ⟨f_are_in_order, _, g_are_in_order, k_are_in_order, ok_ord F_are_in_order T.len T.range, b_are_in_order⟩, ⟨f_size_of, _, g_size_of, k_size_of, ok_sizeOf F_size_of T.sum, b_size_of⟩⟩
  have G_ref : FnOk P w K mg base CX0 2 f_refusal_of_things _ ["row", "repeats", "lo", "hi", "numbers"] spRef := ok_ref F_refusal_of_things T E2
  have mAny := PySem.W.mg_none_of X G z_any
  have mMax := PySem.W.mg_none_of X G z_max
  have mSorted := PySem.W.mg_none_of X G z_sorted
  have G_reach : FnOk P w K mg base CX0 1 f_how_many_reach _ ["parts", "least"] spReach := ok_reach F_how_many_reach T.len
  have G_turn : FnOk P w K mg base CX0 2 f_turned_about _ ["parts"] spTurn := ok_turn F_turned_about mMax T.range G_reach g_how_many_reach k_how_many_reach b_how_many_reach
  have G_sqr : FnOk P w K mg base CX0 1 f_square_of _ ["parts"] spSqr := ok_sqr F_square_of T.len T.enumerate
  have G_diag : FnOk P w K mg base CX0 3 f_diagonal_of _ ["parts"] spDiag := ok_diag F_diagonal_of T.range G_turn g_turned_about k_turned_about b_turned_about G_sqr g_square_of k_square_of b_square_of
  have G_oddIn : FnOk P w K mg base CX0 1 f_odd_number_in _ ["part"] spOddIn := ok_oddIn F_odd_number_in
  have G_pow : FnOk P w K mg base CX0 1 f_powers_in _ ["many"] spPow := ok_pow F_powers_in
  have TP : TxtP mg := ⟨⟨_, PySem.W.mg_of X G g_TURN⟩, ⟨_, PySem.W.mg_of X G g_ODD⟩, ⟨_, PySem.W.mg_of X G g_ONCE⟩, ⟨_, PySem.W.mg_of X G g_NO_SUCH_PARTITION⟩, ⟨_, PySem.W.mg_of X G g_WRONG_PARTS⟩⟩
  have E3 : Env3 P w K mg base 0 := ⟨TP, ⟨f_is_partition, _, g_is_partition, k_is_partition, ok_isP F_is_partition T.sum T.enumerate ⟨_, PySem.W.mg_of X G g_MOST_TOGETHER⟩, b_is_partition⟩, ⟨f_has_equal_parts, _, g_has_equal_parts, k_has_equal_parts, ok_eq F_has_equal_parts T.len T.range, b_has_equal_parts⟩, ⟨f_has_even_part, _, g_has_even_part, k_has_even_part, ok_even F_has_even_part mAny, b_has_even_part⟩, ⟨f_turned_about, _, g_turned_about, k_turned_about, G_turn, b_turned_about⟩, ⟨f_square_of, _, g_square_of, k_square_of, G_sqr, b_square_of⟩, ⟨f_diagonal_of, _, g_diagonal_of, k_diagonal_of, G_diag, b_diagonal_of⟩, ⟨f_to_odd_parts, _, g_to_odd_parts, k_to_odd_parts, ok_toOdd F_to_odd_parts mSorted G_oddIn g_odd_number_in k_odd_number_in b_odd_number_in, b_to_odd_parts⟩, ⟨f_to_different_parts, _, g_to_different_parts, k_to_different_parts, ok_toDiff F_to_different_parts mSorted G_pow g_powers_in k_powers_in b_powers_in, b_to_different_parts⟩, ⟨f_parts_told, _, g_parts_told, k_parts_told, ok_pt F_parts_told T.len, b_parts_told⟩⟩
  have TO : TxtO mg := ⟨⟨_, PySem.W.mg_of X G g_BEGIN⟩, ⟨_, PySem.W.mg_of X G g_COUNT⟩, ⟨_, PySem.W.mg_of X G g_MAKE⟩, ⟨_, PySem.W.mg_of X G g_NUMBER⟩, ⟨_, PySem.W.mg_of X G g_LIST⟩, ⟨_, PySem.W.mg_of X G g_NEXT⟩⟩
  have E4 : Env4 P w K mg base 0 := ⟨TO, ⟨f_begin, _, g_begin, k_begin, ok_begin F_begin T, b_begin⟩, ⟨f_count, _, g_count, k_count, ok_count F_count E1, b_count⟩, ⟨f_make, _, g_make, k_make, ok_make F_make E1, b_make⟩, ⟨f_number, _, g_number, k_number, ok_number F_number E1 E2 G_ref g_refusal_of_things k_refusal_of_things b_refusal_of_things, b_number⟩, ⟨f_list_all, _, g_list_all, k_list_all, ok_list F_list_all E1, b_list_all⟩, ⟨f_next_set, _, g_next_set, k_next_set, ok_next F_next_set E1 E2 ⟨_, PySem.W.mg_of X G g_LAST_SET⟩ G_ref g_refusal_of_things k_refusal_of_things b_refusal_of_things, b_next_set⟩, ⟨f_answer_about_parts, _, g_answer_about_parts, k_answer_about_parts, ok_about F_answer_about_parts E3, b_answer_about_parts⟩⟩
  have G_to : FnOk P w K mg base CX0 6 f_answer_to _ ["row", "call"] spTo := ok_to F_answer_to E4
  have G_end := ok_end (P := P) (w := w) (base := base) (k := 0) (its := [.int 1, .int 4, .int 6, .int 7, .int 8, .int 9, .int 10]) F_end_of_call (PySem.W.mg_of X G aD) (PySem.W.mg_of X G aT) (fun C => by cases C <;> exact kdctI_of lD eD rfl) (fun H => .inr ⟨_, _, _, lT, rfl, rfl, (by show 7 ≤ sizeLine; decide), .cons ⟨_, rfl⟩ (.cons ⟨_, rfl⟩ (.cons ⟨_, rfl⟩ (.cons ⟨_, rfl⟩ (.cons ⟨_, rfl⟩ (.cons ⟨_, rfl⟩ (.cons ⟨_, rfl⟩ .nil))))))⟩) rfl (fun C => by cases C <;> rfl)
  exact ok_ans F_answers T ⟨_, PySem.W.mg_of X G g_BEGIN⟩ G_row g_row_of k_row_of b_row_of G_end g_end_of_call k_end_of_call b_end_of_call G_to g_answer_to k_answer_to b_answer_to
end Ps
open PySem PySem.W PyProof.Rows
set_option maxRecDepth 100000 in
set_option maxHeartbeats 0 in
theorem PySem.Challenge.cw_partsandsets_s01_answers_holds : PySem.Challenge.rw_partsandsets_s01_answers.Holds := by
  w_on; k_headS; (case hw => exact ⟨[.list [.int 1, .int 0]], by decide +kernel, by decide +kernel⟩)
  k_fillS
  refine L2.walk_specK (r := PySem.Challenge.rw_partsandsets_s01_answers) (k := 7) (CX := L2.CX0) (ps := ["calls"]) (sp := Ps.spAns) (by decide +kernel) rfl rfl ⟨rfl, by decide, by decide⟩ (fun w h Y => PySem.W.kIn_of Y) ?F ?S (fun _ _ _ _ z => z)
  case F =>
    intro w mg fa h Y KX G hmg
    refine' Ps.all_mk KX G hmg ?aC ?a_row_of ?l_row_of ?c_row_of ?k_row_of ?a_things_of ?l_things_of ?c_things_of ?k_things_of ?a_places_of ?l_places_of ?c_places_of ?k_places_of ?a_are_in_order ?l_are_in_order ?c_are_in_order ?k_are_in_order ?a_ways_behind_all ?l_ways_behind_all ?c_ways_behind_all ?k_ways_behind_all ?a_ways_with_thing ?l_ways_with_thing ?c_ways_with_thing ?k_ways_with_thing ?a_ways_from_each ?l_ways_from_each ?c_ways_from_each ?k_ways_from_each ?a_answers ?l_answers ?c_answers ?k_answers ?a_end_of_call ?l_end_of_call ?c_end_of_call ?k_end_of_call ?a_answer_to ?l_answer_to ?c_answer_to ?k_answer_to ?a_begin ?l_begin ?c_begin ?k_begin ?a_count ?l_count ?c_count ?k_count ?a_make ?l_make ?c_make ?k_make ?a_number ?l_number ?c_number ?k_number ?a_list_all ?l_list_all ?c_list_all ?k_list_all ?a_set_told ?l_set_told ?c_set_told ?k_set_told ?a_size_of ?l_size_of ?c_size_of ?k_size_of ?a_refusal_of_things ?l_refusal_of_things ?c_refusal_of_things ?k_refusal_of_things ?a_next_set ?l_next_set ?c_next_set ?k_next_set ?a_answer_about_parts ?l_answer_about_parts ?c_answer_about_parts ?k_answer_about_parts ?a_parts_told ?l_parts_told ?c_parts_told ?k_parts_told ?a_is_partition ?l_is_partition ?c_is_partition ?k_is_partition ?a_has_equal_parts ?l_has_equal_parts ?c_has_equal_parts ?k_has_equal_parts ?a_has_even_part ?l_has_even_part ?c_has_even_part ?k_has_even_part ?a_turned_about ?l_turned_about ?c_turned_about ?k_turned_about ?a_how_many_reach ?l_how_many_reach ?c_how_many_reach ?k_how_many_reach ?a_square_of ?l_square_of ?c_square_of ?k_square_of ?a_diagonal_of ?l_diagonal_of ?c_diagonal_of ?k_diagonal_of ?a_to_odd_parts ?l_to_odd_parts ?c_to_odd_parts ?k_to_odd_parts ?a_odd_number_in ?l_odd_number_in ?c_odd_number_in ?k_odd_number_in ?a_to_different_parts ?l_to_different_parts ?c_to_different_parts ?k_to_different_parts ?a_powers_in ?l_powers_in ?c_powers_in ?k_powers_in ?a_init ?i_init ?l_init ?c_init ?k_init ?a_how_many ?i_how_many ?l_how_many ?c_how_many ?k_how_many ?a_how_many_take ?i_how_many_take ?l_how_many_take ?c_how_many_take ?k_how_many_take ?a_set_at ?i_set_at ?l_set_at ?c_set_at ?k_set_at ?a_number_of ?i_number_of ?l_number_of ?c_number_of ?k_number_of ?pg ?hd ?po ?sa ?mk ?kc ?n_row ?n_repeats ?n_size ?n_ways ?g_MOST_SIZES ?g_MOST_THINGS ?g_MOST_SIZE ?g_MOST_SETS ?g_MOST_LISTED ?g_OUT_OF_BOUNDS ?g_NO_SUCH_SET ?g_TOO_LONG_A_LIST ?g_TOO_MANY_SETS ?g_BEGIN ?g_COUNT ?g_MAKE ?g_NUMBER ?g_LIST ?g_NEXT ?g_TURN ?g_ODD ?g_ONCE ?g_NO_SUCH_PARTITION ?g_WRONG_PARTS ?g_LAST_SET ?g_MOST_TOGETHER ?z_len ?z_range ?z_sum ?z_enumerate ?z_reversed ?z_any ?z_max ?z_sorted ?aD ?lD ?eD ?aT ?lT
    (case aC => k_is)
    (case a_row_of => k_is)
    (case l_row_of => k_is)
    (case c_row_of => k_is)
    (case k_row_of => k_is)
    (case a_things_of => k_is)
    (case l_things_of => k_is)
    (case c_things_of => k_is)
    (case k_things_of => k_is)
    (case a_places_of => k_is)
    (case l_places_of => k_is)
    (case c_places_of => k_is)
    (case k_places_of => k_is)
    (case a_are_in_order => k_is)
    (case l_are_in_order => k_is)
    (case c_are_in_order => k_is)
    (case k_are_in_order => k_is)
    (case a_ways_behind_all => k_is)
    (case l_ways_behind_all => k_is)
    (case c_ways_behind_all => k_is)
    (case k_ways_behind_all => k_is)
    (case a_ways_with_thing => k_is)
    (case l_ways_with_thing => k_is)
    (case c_ways_with_thing => k_is)
    (case k_ways_with_thing => k_is)
    (case a_ways_from_each => k_is)
    (case l_ways_from_each => k_is)
    (case c_ways_from_each => k_is)
    (case k_ways_from_each => k_is)
    (case a_answers => k_is)
    (case l_answers => k_is)
    (case c_answers => k_is)
    (case k_answers => k_is)
    (case a_end_of_call => k_is)
    (case l_end_of_call => k_is)
    (case c_end_of_call => k_is)
    (case k_end_of_call => k_is)
    (case a_answer_to => k_is)
    (case l_answer_to => k_is)
    (case c_answer_to => k_is)
    (case k_answer_to => k_is)
    (case a_begin => k_is)
    (case l_begin => k_is)
    (case c_begin => k_is)
    (case k_begin => k_is)
    (case a_count => k_is)
    (case l_count => k_is)
    (case c_count => k_is)
    (case k_count => k_is)
    (case a_make => k_is)
    (case l_make => k_is)
    (case c_make => k_is)
    (case k_make => k_is)
    (case a_number => k_is)
    (case l_number => k_is)
    (case c_number => k_is)
    (case k_number => k_is)
    (case a_list_all => k_is)
    (case l_list_all => k_is)
    (case c_list_all => k_is)
    (case k_list_all => k_is)
    (case a_set_told => k_is)
    (case l_set_told => k_is)
    (case c_set_told => k_is)
    (case k_set_told => k_is)
    (case a_size_of => k_is)
    (case l_size_of => k_is)
    (case c_size_of => k_is)
    (case k_size_of => k_is)
    (case a_refusal_of_things => k_is)
    (case l_refusal_of_things => k_is)
    (case c_refusal_of_things => k_is)
    (case k_refusal_of_things => k_is)
    (case a_next_set => k_is)
    (case l_next_set => k_is)
    (case c_next_set => k_is)
    (case k_next_set => k_is)
    (case a_answer_about_parts => k_is)
    (case l_answer_about_parts => k_is)
    (case c_answer_about_parts => k_is)
    (case k_answer_about_parts => k_is)
    (case a_parts_told => k_is)
    (case l_parts_told => k_is)
    (case c_parts_told => k_is)
    (case k_parts_told => k_is)
    (case a_is_partition => k_is)
    (case l_is_partition => k_is)
    (case c_is_partition => k_is)
    (case k_is_partition => k_is)
    (case a_has_equal_parts => k_is)
    (case l_has_equal_parts => k_is)
    (case c_has_equal_parts => k_is)
    (case k_has_equal_parts => k_is)
    (case a_has_even_part => k_is)
    (case l_has_even_part => k_is)
    (case c_has_even_part => k_is)
    (case k_has_even_part => k_is)
    (case a_turned_about => k_is)
    (case l_turned_about => k_is)
    (case c_turned_about => k_is)
    (case k_turned_about => k_is)
    (case a_how_many_reach => k_is)
    (case l_how_many_reach => k_is)
    (case c_how_many_reach => k_is)
    (case k_how_many_reach => k_is)
    (case a_square_of => k_is)
    (case l_square_of => k_is)
    (case c_square_of => k_is)
    (case k_square_of => k_is)
    (case a_diagonal_of => k_is)
    (case l_diagonal_of => k_is)
    (case c_diagonal_of => k_is)
    (case k_diagonal_of => k_is)
    (case a_to_odd_parts => k_is)
    (case l_to_odd_parts => k_is)
    (case c_to_odd_parts => k_is)
    (case k_to_odd_parts => k_is)
    (case a_odd_number_in => k_is)
    (case l_odd_number_in => k_is)
    (case c_odd_number_in => k_is)
    (case k_odd_number_in => k_is)
    (case a_to_different_parts => k_is)
    (case l_to_different_parts => k_is)
    (case c_to_different_parts => k_is)
    (case k_to_different_parts => k_is)
    (case a_powers_in => k_is)
    (case l_powers_in => k_is)
    (case c_powers_in => k_is)
    (case k_powers_in => k_is)
    (case a_init => k_is)
    (case i_init => k_is)
    (case l_init => k_is)
    (case c_init => k_is)
    (case k_init => k_is)
    (case a_how_many => k_is)
    (case i_how_many => k_is)
    (case l_how_many => k_is)
    (case c_how_many => k_is)
    (case k_how_many => k_is)
    (case a_how_many_take => k_is)
    (case i_how_many_take => k_is)
    (case l_how_many_take => k_is)
    (case c_how_many_take => k_is)
    (case k_how_many_take => k_is)
    (case a_set_at => k_is)
    (case i_set_at => k_is)
    (case l_set_at => k_is)
    (case c_set_at => k_is)
    (case k_set_at => k_is)
    (case a_number_of => k_is)
    (case i_number_of => k_is)
    (case l_number_of => k_is)
    (case c_number_of => k_is)
    (case k_number_of => k_is)
    (case pg => k_is)
    (case hd => k_is)
    (case po => k_is)
    (case sa => k_is)
    (case mk => k_is)
    (case kc => k_is)
    (case n_row => k_is)
    (case n_repeats => k_is)
    (case n_size => k_is)
    (case n_ways => k_is)
    (case g_MOST_SIZES => k_is)
    (case g_MOST_THINGS => k_is)
    (case g_MOST_SIZE => k_is)
    (case g_MOST_SETS => k_is)
    (case g_MOST_LISTED => k_is)
    (case g_OUT_OF_BOUNDS => k_is)
    (case g_NO_SUCH_SET => k_is)
    (case g_TOO_LONG_A_LIST => k_is)
    (case g_TOO_MANY_SETS => k_is)
    (case g_BEGIN => k_is)
    (case g_COUNT => k_is)
    (case g_MAKE => k_is)
    (case g_NUMBER => k_is)
    (case g_LIST => k_is)
    (case g_NEXT => k_is)
    (case g_TURN => k_is)
    (case g_ODD => k_is)
    (case g_ONCE => k_is)
    (case g_NO_SUCH_PARTITION => k_is)
    (case g_WRONG_PARTS => k_is)
    (case g_LAST_SET => k_is)
    (case g_MOST_TOGETHER => k_is)
    (case z_len => k_is)
    (case z_range => k_is)
    (case z_sum => k_is)
    (case z_enumerate => k_is)
    (case z_reversed => k_is)
    (case z_any => k_is)
    (case z_max => k_is)
    (case z_sorted => k_is)
    (case aD => k_is)
    (case lD => k_is)
    (case eD => rfl)
    (case aT => k_is)
    (case lT => k_is)
  case S =>
    intro K H xs a hO hwi hask hx
    cases hx with
    | cons h1 h2 =>
      cases h2
      cases h1 with
      | lst hs ha =>
        have e := L2.ints_dw a.1 _ ha
        subst e
        have q : ((Codec.inLen 0 16000 a.1 && a.1.all (Codec.inInt (Int.ofNat 0) (Int.ofNat 18446744073709551615))) && true) = true := hwi
        rw [Bool.and_eq_true, Bool.and_eq_true] at q
        have hz : ∀ z ∈ a.1, (0 : Int) ≤ z := fun z hz => (Codec.inInt_iff.mp (List.all_eq_true.mp q.1.2 z hz)).1
        obtain ⟨ls, cs, el, hL, hA, hlen⟩ := Ps.asked_line hz hask
        have hl : ls.length ≤ 16000 := by
          have := (Codec.inNat_iff.mp q.1.1).2
          rw [el, List.length_map] at this
          exact this
        have ev : a.1.map L2.V.int = Ps.vns ls := by
          rw [el]
          exact (Ps.vns_vis ls).symm
        rw [ev] at hs
        rw [hA] at hlen
        refine ⟨_, ls, cs, rfl, hs, hl, hL, hlen, fun H' p hp => ?_⟩
        show L2.Dw K H' (.ref p) (WData.list ((PySq52.answers a.1).map WData.int))
        rw [hA]
        exact .lst (L2.SqL.of hp) (L2.dw_ints _)
