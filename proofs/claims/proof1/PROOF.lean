import PyProof.Rows.All
import Wide.All
import OpenK.AllK
import Wide.FinOn
import Open.SpecLaws
import KE.OsHead
import KE.OsGo
import HandS.ForSpec
import HandS.Comp
import HandS.Text
import HandS.CallLocal
import HandS.Flow
import HandS.WideBits
import HandS.SetFor
import PySem.Challenge.RW_growinganswers_s01_answers
namespace Ga
open Kh412
theorem join_all : ∀ m, m < 5 → ∀ x, x < 2 ^ m → ∀ y, y < 2 ^ m → join m x y = x ||| y := by decide +kernel
theorem meet_all : ∀ m, m < 5 → ∀ x, x < 2 ^ m → ∀ y, y < 2 ^ m → meet m x y = x &&& y := by decide +kernel
theorem part_all : ∀ m, m < 5 → ∀ x, x < 2 ^ m → ∀ y, y < 2 ^ m → part m x y = decide (x &&& y = x) := by decide +kernel
theorem less_all : ∀ m, m < 5 → ∀ x, x < 2 ^ m → ∀ y, y < 2 ^ m → less m x y = x - (x &&& y) := by decide +kernel
theorem or_lt {m x y : Nat} (hx : x < 2 ^ m) (hy : y < 2 ^ m) : x ||| y < 2 ^ m := Nat.or_lt_two_pow hx hy
theorem and_lt {m x y : Nat} (hx : x < 2 ^ m) : x &&& y < 2 ^ m := Nat.lt_of_le_of_lt Nat.and_le_left hx
end Ga

namespace Ga
open Kh412
/-! lists of small numbers -/
theorem take_snoc {α : Type} : ∀ {l : List α} {i : Nat} {x : α}, l[i]? = some x → l.take (i + 1) = l.take i ++ [x]
  | [], i, x, h => by simp at h
  | a :: l, 0, x, h => by
    have e : a = x := Option.some.inj h
    subst e
    rfl
  | a :: l, i + 1, x, h => by
    have ih := take_snoc (l := l) (i := i) (x := x) h
    show a :: l.take (i + 1) = a :: l.take i ++ [x]
    rw [ih]
    rfl
theorem range_split {n x : Nat} (hx : x < n) : List.range n = List.range x ++ x :: (List.range n).drop (x + 1) := by
  have h1 : (List.range n).take x = List.range x := by rw [List.take_range, Nat.min_eq_left (Nat.le_of_lt hx)]
  have h2 : (List.range n).drop x = x :: (List.range n).drop (x + 1) := by
    rw [List.drop_eq_getElem_cons (by rw [List.length_range]; exact hx), List.getElem_range]
  conv => lhs; rw [← List.take_append_drop x (List.range n), h1, h2]
/-- the first place at which g tells something -/
theorem fs_at {β : Type} {g : Nat → Option β} {n x : Nat} {r : β} (hx : x < n) (h : ∀ i, i < x → g i = none) (e : g x = some r) : (List.range n).findSome? g = some r :=
  List.findSome?_eq_some_iff.mpr ⟨List.range x, x, _, range_split hx, e, fun i hi => h i (List.mem_range.mp hi)⟩
theorem fs_none {β : Type} {g : Nat → Option β} {n : Nat} (h : ∀ i, i < n → g i = none) : (List.range n).findSome? g = none :=
  List.findSome?_eq_none_iff.mpr fun i hi => h i (List.mem_range.mp hi)
theorem fd_at {p : Nat → Bool} {n x : Nat} (hx : x < n) (h : ∀ i, i < x → p i = false) (e : p x = true) : (List.range n).find? p = some x :=
  List.find?_eq_some_iff_append.mpr ⟨e, List.range x, _, range_split hx, fun i hi => by rw [h i (List.mem_range.mp hi)]; rfl⟩
theorem fd_none {p : Nat → Bool} {n : Nat} (h : ∀ i, i < n → p i = false) : (List.range n).find? p = none :=
  List.find?_eq_none.mpr fun i hi => by rw [h i (List.mem_range.mp hi)]; exact Bool.false_ne_true
theorem fold_range {α : Type} (g : α → Nat → α) (c : α) (n : Nat) : (List.range (n + 1)).foldl g c = g ((List.range n).foldl g c) n := by
  rw [List.range_succ, List.foldl_append]
  rfl
theorem map_range {α : Type} (g : Nat → α) (n : Nat) : (List.range (n + 1)).map g = (List.range n).map g ++ [g n] := by
  rw [List.range_succ, List.map_append]
  rfl
theorem filter_range (p : Nat → Bool) (n : Nat) : (List.range (n + 1)).filter p = (List.range n).filter p ++ if p n then [n] else [] := by
  rw [List.range_succ, List.filter_append]
  cases e : p n
  · simp [e]
  · simp [e]
end Ga

namespace Ga
open Kh412
def lost (f : List Nat) (x y : Nat) : Nat := f.getD x 0 - (f.getD x 0 &&& f.getD y 0)
def lossAt (f : List Nat) (x y : Nat) : Bool := decide (x &&& y = x) && !decide (lost f x y = 0)
def loss (f : List Nat) : Option (Nat × Nat) := (List.range f.length).findSome? fun x => ((List.range f.length).find? (lossAt f x)).map fun y => (x, y)
def lossL (f : List Nat) : List Nat := match loss f with
  | none => []
  | some p => [p.1, p.2, lost f p.1 p.2]
def surplusAt (f : List Nat) (x y : Nat) : Bool := !decide (f.getD (x ||| y) 0 = f.getD x 0 ||| f.getD y 0)
def surplus (f : List Nat) : Option (Nat × Nat) := (List.range f.length).findSome? fun x => ((List.range f.length).find? (surplusAt f x)).map fun y => (x, y)
def surplusL (f : List Nat) : List Nat := match surplus f with
  | none => []
  | some p => [p.1, p.2]
/-! lists of sets -/
def partsL (x : Nat) : List Nat := (List.range (x + 1)).filter fun y => decide (y &&& x = y)
def openL (n x z : Nat) : List Nat := (List.range n).filter fun y => decide (x &&& y = x) && decide (y &&& z = 0)
def anyL (f l : List Nat) : Nat := l.foldl (fun t y => t ||| f.getD y 0) 0
def eachL (f l : List Nat) : Nat := l.foldl (fun t y => t &&& f.getD y 0) (f.getD (l.getD 0 0) 0)
def aboveAt (f : List Nat) (x : Nat) : Nat := anyL f (partsL x)
def aboveL (f : List Nat) : List Nat := (List.range f.length).map (aboveAt f)
def belowAt (f : List Nat) (x : Nat) : Nat := eachL f (openL f.length x 0)
def belowL (f : List Nat) : List Nat := (List.range f.length).map (belowAt f)
def aloneL (f : List Nat) (o : Nat) : List Nat := f.map fun v => v &&& 2 ^ o
def lesserL (x : Nat) : List Nat := (partsL x).filter fun y => !decide (y = x)
def leastAt (f : List Nat) (o x : Nat) : Bool := !decide ((aloneL f o).getD x 0 = 0) && decide (anyL (aloneL f o) (lesserL x) = 0)
def leastL (f : List Nat) (o : Nat) : List Nat := (List.range f.length).filter (leastAt f o)
def pop (x : Nat) : Nat := ((List.range 4).filter (has x)).length
def enoughAt (f : List Nat) (x o z : Nat) : Bool := decide (x &&& z = 0) && !decide (eachL (aloneL f o) (openL f.length x z) = 0)
def fewStep (f : List Nat) (x o : Nat) (r : List Nat) (z : Nat) : List Nat := if (enoughAt f x o z && (decide (r = []) || decide (pop z < r.getD 0 0))) = true then [pop z, z] else r
def fewestL (f : List Nat) (x o : Nat) : List Nat := (List.range f.length).foldl (fewStep f x o) []
def orAt (l : List Nat) (t : Nat) : Nat := (l.take t).foldl (fun s k => s ||| 2 ^ k) 0
def stepsL (l : List Nat) : List Nat := (List.range (l.length + 1)).map (orAt l)
def orsL (l : List Nat) : Nat := l.foldl (fun s x => s ||| x) 0
structure Good (a : Abs) : Prop where
  n1 : 1 ≤ a.n
  n4 : a.n ≤ 4
  k1 : 1 ≤ a.k
  k3 : a.k ≤ 3
  len : a.f.length = 2 ^ a.n
  val : ∀ v, v ∈ a.f → v < 2 ^ a.k
def giv : Option Abs → List Nat
  | none => []
  | some a => a.f
def cnt : Option Abs → Nat
  | none => 0
  | some a => a.k
def OkS (s : Option Abs) : Prop := ∀ a, s = some a → Good a
def differs (f g : List Nat) (x : Nat) : Bool := !decide (f.getD x 0 = g.getD x 0)
theorem cnt_le {s : Option Abs} (h : OkS s) : cnt s ≤ 3 := by
  cases s with
  | none => exact Nat.zero_le _
  | some a => exact (h a rfl).k3
theorem giv_len {s : Option Abs} (h : OkS s) : (giv s).length ≤ 16 := by
  cases s with
  | none => exact Nat.zero_le _
  | some a =>
    show a.f.length ≤ 16
    rw [(h a rfl).len]
    exact Nat.pow_le_pow_right (by decide) (h a rfl).n4
end Ga

set_option linter.all false
namespace Ga
open Kh412
theorem fold_same {P : Nat → Prop} {f g : Nat → Nat → Nat} : ∀ (l : List Nat) (c : Nat), P c → (∀ t y, P t → y ∈ l → f t y = g t y ∧ P (g t y)) → l.foldl f c = l.foldl g c ∧ P (l.foldl g c)
  | [], c, h, _ => ⟨rfl, h⟩
  | y :: l, c, h, k => by
    obtain ⟨e, p⟩ := k c y h (List.mem_cons_self ..)
    have ih := fold_same (f := f) (g := g) l (g c y) p fun t z ht hz => k t z ht (List.mem_cons_of_mem _ hz)
    show l.foldl f (f c y) = l.foldl g (g c y) ∧ _
    rw [e]
    exact ih
theorem fs_congr {β : Type} {f g : Nat → Option β} : ∀ {l : List Nat}, (∀ x, x ∈ l → f x = g x) → l.findSome? f = l.findSome? g
  | [], _ => rfl
  | x :: l, h => by
    rw [List.findSome?_cons, List.findSome?_cons, h x (List.mem_cons_self ..), fs_congr fun z hz => h z (List.mem_cons_of_mem _ hz)]
theorem fd_congr {f g : Nat → Bool} : ∀ {l : List Nat}, (∀ x, x ∈ l → f x = g x) → l.find? f = l.find? g
  | [], _ => rfl
  | x :: l, h => by
    rw [List.find?_cons, List.find?_cons, h x (List.mem_cons_self ..), fd_congr fun z hz => h z (List.mem_cons_of_mem _ hz)]
theorem fl_congr {f g : Nat → Bool} : ∀ {l : List Nat}, (∀ x, x ∈ l → f x = g x) → l.filter f = l.filter g
  | [], _ => rfl
  | x :: l, h => by
    rw [List.filter_cons, List.filter_cons, h x (List.mem_cons_self ..), fl_congr fun z hz => h z (List.mem_cons_of_mem _ hz)]
theorem mp_congr {β : Type} {f g : Nat → β} : ∀ {l : List Nat}, (∀ x, x ∈ l → f x = g x) → l.map f = l.map g
  | [], _ => rfl
  | x :: l, h => by
    rw [List.map_cons, List.map_cons, h x (List.mem_cons_self ..), mp_congr fun z hz => h z (List.mem_cons_of_mem _ hz)]
section
variable {a : Abs} (h : Good a)
include h
theorem n5 : a.n < 5 := Nat.lt_succ_of_le h.n4
theorem k5 : a.k < 5 := Nat.lt_of_le_of_lt h.k3 (by decide)
theorem pos_n : 0 < 2 ^ a.n := Nat.pow_pos (by decide)
theorem pos_k : 0 < 2 ^ a.k := Nat.pow_pos (by decide)
theorem at_lt (x : Nat) : a.f.getD x 0 < 2 ^ a.k := by
  by_cases q : x < a.f.length
  · rw [List.getD_eq_getElem?_getD, List.getElem?_eq_getElem q]
    exact h.val _ (List.getElem_mem q)
  · rw [List.getD_eq_getElem?_getD, List.getElem?_eq_none (Nat.le_of_not_lt q)]
    exact pos_k h
theorem joinN {x y : Nat} (hx : x < 2 ^ a.n) (hy : y < 2 ^ a.n) : join a.n x y = x ||| y := join_all a.n (n5 h) x hx y hy
theorem joinK {x y : Nat} (hx : x < 2 ^ a.k) (hy : y < 2 ^ a.k) : join a.k x y = x ||| y := join_all a.k (k5 h) x hx y hy
theorem meetN {x y : Nat} (hx : x < 2 ^ a.n) (hy : y < 2 ^ a.n) : meet a.n x y = x &&& y := meet_all a.n (n5 h) x hx y hy
theorem meetK {x y : Nat} (hx : x < 2 ^ a.k) (hy : y < 2 ^ a.k) : meet a.k x y = x &&& y := meet_all a.k (k5 h) x hx y hy
theorem partN {x y : Nat} (hx : x < 2 ^ a.n) (hy : y < 2 ^ a.n) : part a.n x y = decide (x &&& y = x) := part_all a.n (n5 h) x hx y hy
theorem partK {x y : Nat} (hx : x < 2 ^ a.k) (hy : y < 2 ^ a.k) : part a.k x y = decide (x &&& y = x) := part_all a.k (k5 h) x hx y hy
theorem lessK {x y : Nat} (hx : x < 2 ^ a.k) (hy : y < 2 ^ a.k) : less a.k x y = x - (x &&& y) := less_all a.k (k5 h) x hx y hy
theorem mem_in {x : Nat} (hx : x ∈ inputs a) : x < 2 ^ a.n := List.mem_range.mp hx
/-! the one above, the one below -/
theorem joins_is : ∀ (l : List Nat) (t : Nat), t < 2 ^ a.k → l.foldl (fun t y => join a.k t (at_ a y)) t = l.foldl (fun t y => t ||| a.f.getD y 0) t ∧ l.foldl (fun t y => t ||| a.f.getD y 0) t < 2 ^ a.k := fun l t ht =>
  fold_same (P := fun t => t < 2 ^ a.k) l t ht fun t y ht _ => ⟨joinK h ht (at_lt h y), or_lt ht (at_lt h y)⟩
theorem any_is (l : List Nat) : l.foldl (fun t y => join a.k t (at_ a y)) 0 = anyL a.f l ∧ anyL a.f l < 2 ^ a.k := joins_is h l 0 (pos_k h)
theorem meets_is : ∀ (l : List Nat) (t : Nat), t < 2 ^ a.k → l.foldl (fun t y => meet a.k t (at_ a y)) t = l.foldl (fun t y => t &&& a.f.getD y 0) t ∧ l.foldl (fun t y => t &&& a.f.getD y 0) t < 2 ^ a.k := fun l t ht =>
  fold_same (P := fun t => t < 2 ^ a.k) l t ht fun t y ht _ => ⟨meetK h ht (at_lt h y), and_lt ht⟩
omit h in
theorem parts_all : ∀ m, m < 5 → ∀ x, x < 2 ^ m → ((List.range (2 ^ m)).filter fun y => decide (y &&& x = y)) = partsL x := by decide +kernel
theorem parts_is {x : Nat} (hx : x < 2 ^ a.n) : ((inputs a).filter fun y => part a.n y x) = partsL x := by
  rw [← parts_all a.n (n5 h) x hx]
  exact fl_congr fun y hy => partN h (mem_in h hy) hx
theorem ways_is {x z : Nat} (hx : x < 2 ^ a.n) (hz : z < 2 ^ a.n) : ways a x z = openL (2 ^ a.n) x z := by
  refine fl_congr fun y hy => ?_
  rw [partN h hx (mem_in h hy), meetN h (mem_in h hy) hz]
  rfl
omit h in
theorem and_full {c k : Nat} (hc : c < 2 ^ k) : c &&& full k = c := by
  unfold full
  rw [Nat.and_two_pow_sub_one_eq_mod, Nat.mod_eq_of_lt hc]
omit h in
theorem each_pull (f : List Nat) (c : Nat) : ∀ (l : List Nat) (d : Nat), l.foldl (fun t y => t &&& f.getD y 0) (c &&& d) = c &&& l.foldl (fun t y => t &&& f.getD y 0) d
  | [], d => rfl
  | y :: l, d => by
    show l.foldl (fun t y => t &&& f.getD y 0) (c &&& d &&& f.getD y 0) = _
    rw [Nat.and_assoc, each_pull f c l]
    rfl
omit h in
theorem each_in (f : List Nat) (z : Nat) : ∀ (l : List Nat) (d : Nat), z ∈ l → f.getD z 0 &&& l.foldl (fun t y => t &&& f.getD y 0) d = l.foldl (fun t y => t &&& f.getD y 0) d
  | [], d, hm => by cases hm
  | y :: l, d, hm => by
    show f.getD z 0 &&& l.foldl (fun t y => t &&& f.getD y 0) (d &&& f.getD y 0) = l.foldl (fun t y => t &&& f.getD y 0) (d &&& f.getD y 0)
    rcases List.mem_cons.mp hm with e | m
    · subst e
      rw [Nat.and_comm d, each_pull, ← Nat.and_assoc, Nat.and_self]
    · exact each_in f z l _ m
omit h in
theorem head_in {l : List Nat} (hl : l ≠ []) : l.getD 0 0 ∈ l := by
  cases l with
  | nil => exact absurd rfl hl
  | cons y l => exact List.mem_cons_self ..
theorem each_is {l : List Nat} (hl : l ≠ []) : l.foldl (fun t y => meet a.k t (at_ a y)) (full a.k) = eachL a.f l ∧ eachL a.f l < 2 ^ a.k := by
  have hf : full a.k < 2 ^ a.k := Nat.sub_lt (pos_k h) (by decide)
  obtain ⟨e1, e2⟩ := meets_is h l (full a.k) hf
  have e3 : eachL a.f l = l.foldl (fun t y => t &&& a.f.getD y 0) (full a.k) := by
    unfold eachL
    have q := each_pull a.f (a.f.getD (l.getD 0 0) 0) l (full a.k)
    rw [and_full (at_lt h _)] at q
    rw [q]
    exact each_in a.f _ l _ (head_in hl)
  rw [e3]
  exact ⟨e1, e2⟩
omit h in
theorem open_in {n x z : Nat} (hx : x < n) (hz : x &&& z = 0) : x ∈ openL n x z := by
  unfold openL
  rw [List.mem_filter]
  exact ⟨List.mem_range.mpr hx, by rw [Nat.and_self, decide_eq_true rfl, decide_eq_true hz]; rfl⟩
omit h in
theorem open_ne {n x z : Nat} (hx : x < n) (hz : x &&& z = 0) : openL n x z ≠ [] := fun e => by
  have := open_in hx hz
  rw [e] at this
  cases this
omit h in
theorem open_lt {n x z y : Nat} (h : y ∈ openL n x z) : y < n := by
  unfold openL at h
  rw [List.mem_filter] at h
  exact List.mem_range.mp h.1
omit h in
theorem parts_le {x y : Nat} (h : y ∈ partsL x) : y ≤ x := by
  unfold partsL at h
  rw [List.mem_filter] at h
  exact Nat.le_of_lt_succ (List.mem_range.mp h.1)
theorem sure_is {x z : Nat} (hx : x < 2 ^ a.n) (hz : z < 2 ^ a.n) (hm : x &&& z = 0) : sure a x z = eachL a.f (openL (2 ^ a.n) x z) ∧ eachL a.f (openL (2 ^ a.n) x z) < 2 ^ a.k := by
  unfold sure
  rw [ways_is h hx hz]
  exact each_is h (open_ne hx hm)
theorem may_is {x z : Nat} (hx : x < 2 ^ a.n) (hz : z < 2 ^ a.n) : may a x z = anyL a.f (openL (2 ^ a.n) x z) := by
  unfold may
  rw [ways_is h hx hz]
  exact (any_is h _).1
theorem up_is {x : Nat} (hx : x < 2 ^ a.n) : up a x = aboveAt a.f x ∧ aboveAt a.f x < 2 ^ a.k := by
  unfold up aboveAt
  rw [parts_is h hx]
  exact any_is h _
theorem down_is {x : Nat} (hx : x < 2 ^ a.n) : down a x = belowAt a.f x ∧ belowAt a.f x < 2 ^ a.k := by
  unfold down belowAt
  rw [h.len]
  exact sure_is h hx (pos_n h) (Nat.and_zero x)
theorem aboveL_is : aboveL a.f = (inputs a).map (up a) := by
  unfold aboveL
  rw [h.len]
  exact mp_congr fun x hx => ((up_is h (mem_in h hx)).1).symm
theorem belowL_is : belowL a.f = (inputs a).map (down a) := by
  unfold belowL
  rw [h.len]
  exact mp_congr fun x hx => ((down_is h (mem_in h hx)).1).symm
theorem good_with {l : List Nat} (hl : l.length = 2 ^ a.n) (hv : ∀ v, v ∈ l → v < 2 ^ a.k) : Good { a with f := l } := ⟨h.n1, h.n4, h.k1, h.k3, hl, hv⟩
theorem above_good : Good { a with f := aboveL a.f } := by
  refine good_with h ?_ ?_
  · unfold aboveL
    rw [List.length_map, List.length_range, h.len]
  · intro v hv
    obtain ⟨x, hx, e⟩ := List.mem_map.mp hv
    rw [h.len] at hx
    rw [← e]
    exact (up_is h (List.mem_range.mp hx)).2
theorem below_good : Good { a with f := belowL a.f } := by
  refine good_with h ?_ ?_
  · unfold belowL
    rw [List.length_map, List.length_range, h.len]
  · intro v hv
    obtain ⟨x, hx, e⟩ := List.mem_map.mp hv
    rw [h.len] at hx
    rw [← e]
    exact (down_is h (List.mem_range.mp hx)).2
/-! growing -/
theorem loss_at {x y : Nat} (hx : x < 2 ^ a.n) (hy : y < 2 ^ a.n) : (part a.n x y && !part a.k (at_ a x) (at_ a y)) = lossAt a.f x y := by
  rw [partN h hx hy]
  unfold lossAt lost
  rw [show part a.k (at_ a x) (at_ a y) = decide (a.f.getD x 0 &&& a.f.getD y 0 = a.f.getD x 0) from partK h (at_lt h x) (at_lt h y)]
  have q : a.f.getD x 0 &&& a.f.getD y 0 ≤ a.f.getD x 0 := Nat.and_le_left
  congr 2
  rw [decide_eq_decide]
  omega
theorem loss_is : ((inputs a).findSome? fun x => ((inputs a).find? fun y => part a.n x y && !part a.k (at_ a x) (at_ a y)).map fun y => (x, y)) = loss a.f := by
  unfold loss
  rw [h.len]
  refine fs_congr fun x hx => ?_
  rw [fd_congr fun y hy => loss_at h (mem_in h hx) (mem_in h hy)]
  rfl
theorem grows_is : grows a = (loss a.f).isNone := by
  have e : grows a = (inputs a).all fun x => (inputs a).all fun y => !lossAt a.f x y := by
    unfold grows
    rw [Bool.eq_iff_iff, List.all_eq_true, List.all_eq_true]
    refine ⟨fun g x hx => ?_, fun g x hx => ?_⟩
    all_goals
      have g1 := g x hx
      rw [List.all_eq_true] at g1 ⊢
      intro y hy
      have g2 := g1 y hy
    · rw [← loss_at h (mem_in h hx) (mem_in h hy)]
      revert g2
      cases part a.n x y <;> cases part a.k (at_ a x) (at_ a y) <;> decide
    · rw [← loss_at h (mem_in h hx) (mem_in h hy)] at g2
      revert g2
      cases part a.n x y <;> cases part a.k (at_ a x) (at_ a y) <;> decide
  rw [e, Bool.eq_iff_iff, List.all_eq_true, Option.isNone_iff_eq_none]
  unfold loss
  rw [List.findSome?_eq_none_iff, h.len]
  refine ⟨fun g x hx => ?_, fun g x hx => ?_⟩
  · have g1 := g x hx
    rw [List.all_eq_true] at g1
    rw [Option.map_eq_none_iff, List.find?_eq_none]
    intro y hy q
    have g2 := g1 y hy
    rw [q] at g2
    cases g2
  · have g1 := g x hx
    rw [Option.map_eq_none_iff, List.find?_eq_none] at g1
    rw [List.all_eq_true]
    intro y hy
    cases q : lossAt a.f x y
    · rfl
    · exact absurd q (g1 y hy)
/-! adding -/
theorem surplus_at {x y : Nat} (hx : x < 2 ^ a.n) (hy : y < 2 ^ a.n) : (at_ a (join a.n x y) != join a.k (at_ a x) (at_ a y)) = surplusAt a.f x y := by
  rw [joinN h hx hy, show join a.k (at_ a x) (at_ a y) = a.f.getD x 0 ||| a.f.getD y 0 from joinK h (at_lt h x) (at_lt h y)]
  unfold surplusAt
  show (!(a.f.getD (x ||| y) 0 == a.f.getD x 0 ||| a.f.getD y 0)) = _
  congr 1
theorem surplus_is : ((inputs a).findSome? fun x => ((inputs a).find? fun y => at_ a (join a.n x y) != join a.k (at_ a x) (at_ a y)).map fun y => (x, y)) = surplus a.f := by
  unfold surplus
  rw [h.len]
  refine fs_congr fun x hx => ?_
  rw [fd_congr fun y hy => surplus_at h (mem_in h hx) (mem_in h hy)]
  rfl
theorem adds_is : adds a = (surplus a.f).isNone := by
  have e : adds a = (inputs a).all fun x => (inputs a).all fun y => !surplusAt a.f x y := by
    unfold adds
    rw [Bool.eq_iff_iff, List.all_eq_true, List.all_eq_true]
    refine ⟨fun g x hx => ?_, fun g x hx => ?_⟩
    all_goals
      have g1 := g x hx
      rw [List.all_eq_true] at g1 ⊢
      intro y hy
      have g2 := g1 y hy
    · rw [← surplus_at h (mem_in h hx) (mem_in h hy)]
      rw [bne, g2]
      rfl
    · rw [← surplus_at h (mem_in h hx) (mem_in h hy), bne, Bool.not_not] at g2
      exact g2
  rw [e, Bool.eq_iff_iff, List.all_eq_true, Option.isNone_iff_eq_none]
  unfold surplus
  rw [List.findSome?_eq_none_iff, h.len]
  refine ⟨fun g x hx => ?_, fun g x hx => ?_⟩
  · have g1 := g x hx
    rw [List.all_eq_true] at g1
    rw [Option.map_eq_none_iff, List.find?_eq_none]
    intro y hy q
    have g2 := g1 y hy
    rw [q] at g2
    cases g2
  · have g1 := g x hx
    rw [Option.map_eq_none_iff, List.find?_eq_none] at g1
    rw [List.all_eq_true]
    intro y hy
    cases q : surplusAt a.f x y
    · rfl
    · exact absurd q (g1 y hy)
/-! one answer alone -/
omit h in
theorem alone_all : ∀ o, o < 3 → ∀ v, v < 8 → ∀ w, w < 8 → part 1 (if has v o then 1 else 0) (if has w o then 1 else 0) = decide ((v &&& 2 ^ o) - ((v &&& 2 ^ o) &&& (w &&& 2 ^ o)) = 0) := by decide +kernel
omit h in
theorem getD_map (g : Nat → Nat) (f : List Nat) {x : Nat} (hx : x < f.length) : (f.map g).getD x 0 = g (f.getD x 0) := by
  rw [List.getD_eq_getElem?_getD, List.getElem?_map, List.getElem?_eq_getElem hx, List.getD_eq_getElem?_getD, List.getElem?_eq_getElem hx]
  rfl
theorem lt8 (x : Nat) : a.f.getD x 0 < 8 := Nat.lt_of_lt_of_le (at_lt h x) (Nat.pow_le_pow_right (by decide) h.k3)
theorem grows_one_is {o : Nat} (ho : o < a.k) : grows (alone a o) = (loss (aloneL a.f o)).isNone := by
  have hlen : (aloneL a.f o).length = 2 ^ a.n := by
    unfold aloneL
    rw [List.length_map, h.len]
  have ho3 : o < 3 := Nat.lt_of_lt_of_le ho h.k3
  have key : ∀ x, x < 2 ^ a.n → ∀ y, y < 2 ^ a.n → (!part a.n x y || part 1 (at_ (alone a o) x) (at_ (alone a o) y)) = !lossAt (aloneL a.f o) x y := fun x hx y hy => by
    have e1 : ∀ z, z < 2 ^ a.n → at_ (alone a o) z = if has (a.f.getD z 0) o then 1 else 0 := fun z hz => getD_map _ a.f (by rw [h.len]; exact hz)
    have e2 : ∀ z, z < 2 ^ a.n → (aloneL a.f o).getD z 0 = a.f.getD z 0 &&& 2 ^ o := fun z hz => getD_map _ a.f (by rw [h.len]; exact hz)
    unfold lossAt lost
    rw [e1 x hx, e1 y hy, e2 x hx, e2 y hy, partN h hx hy, alone_all o ho3 _ (lt8 h x) _ (lt8 h y)]
    cases decide (x &&& y = x) <;> cases decide ((a.f.getD x 0 &&& 2 ^ o) - ((a.f.getD x 0 &&& 2 ^ o) &&& (a.f.getD y 0 &&& 2 ^ o)) = 0) <;> rfl
  have e : grows (alone a o) = (inputs a).all fun x => (inputs a).all fun y => !lossAt (aloneL a.f o) x y := by
    unfold grows
    rw [Bool.eq_iff_iff, List.all_eq_true, List.all_eq_true]
    refine ⟨fun g x hx => ?_, fun g x hx => ?_⟩
    all_goals
      have g1 := g x hx
      rw [List.all_eq_true] at g1 ⊢
      intro y hy
      have g2 := g1 y hy
    · rw [← key x (mem_in h hx) y (mem_in h hy)]
      exact g2
    · have g3 := key x (mem_in h hx) y (mem_in h hy)
      rw [g2] at g3
      exact g3
  rw [e, Bool.eq_iff_iff, List.all_eq_true, Option.isNone_iff_eq_none]
  unfold loss
  rw [List.findSome?_eq_none_iff, hlen]
  refine ⟨fun g x hx => ?_, fun g x hx => ?_⟩
  · have g1 := g x hx
    rw [List.all_eq_true] at g1
    rw [Option.map_eq_none_iff, List.find?_eq_none]
    intro y hy q
    have g2 := g1 y hy
    rw [q] at g2
    cases g2
  · have g1 := g x hx
    rw [Option.map_eq_none_iff, List.find?_eq_none] at g1
    rw [List.all_eq_true]
    intro y hy
    cases q : lossAt (aloneL a.f o) x y
    · rfl
    · exact absurd q (g1 y hy)
end
/-! what a helper's list tells -/
theorem lossL_empty (f : List Nat) : (lossL f = []) ↔ (loss f).isNone = true := by
  unfold lossL
  cases loss f with
  | none => exact ⟨fun _ => rfl, fun _ => rfl⟩
  | some p => exact ⟨fun e => (by cases e), fun e => (by cases e)⟩
theorem surplusL_empty (f : List Nat) : (surplusL f = []) ↔ (surplus f).isNone = true := by
  unfold surplusL
  cases surplus f with
  | none => exact ⟨fun _ => rfl, fun _ => rfl⟩
  | some p => exact ⟨fun e => (by cases e), fun e => (by cases e)⟩
end Ga

set_option linter.all false
namespace Ga
open Kh412
theorem has_all : ∀ o, o < 3 → ∀ v, v < 8 → has v o = !decide (v &&& 2 ^ o = 0) := by decide +kernel
theorem pop_all : ∀ m, m < 5 → ∀ x, x < 2 ^ m → size m x = pop x := by decide +kernel
theorem pop_step : ∀ x, x < 16 → pop x = x % 2 + pop (x / 2) := by decide +kernel
theorem pop_zero : pop 0 = 0 := by decide +kernel
theorem rest_all : ∀ m, m < 5 → ∀ x, x < 2 ^ m → openL (2 ^ m) x (2 ^ m - 1 - x) = [x] ∧ x &&& (2 ^ m - 1 - x) = 0 := by decide +kernel
theorem size_le (m x : Nat) : size m x ≤ m := by
  unfold size
  refine Nat.le_trans (List.length_filter_le _ _) ?_
  rw [List.length_range]
  exact Nat.le_refl _
theorem alone_len (f : List Nat) (o : Nat) : (aloneL f o).length = f.length := by
  unfold aloneL
  rw [List.length_map]
theorem alone_at (f : List Nat) (o x : Nat) : (aloneL f o).getD x 0 = f.getD x 0 &&& 2 ^ o := by
  unfold aloneL
  by_cases q : x < f.length
  · exact getD_map _ f q
  · rw [List.getD_eq_getElem?_getD, List.getElem?_eq_none (by rw [List.length_map]; exact Nat.le_of_not_lt q), List.getD_eq_getElem?_getD, List.getElem?_eq_none (Nat.le_of_not_lt q)]
    exact (Nat.zero_and _).symm
theorem each_alone (f : List Nat) (o : Nat) (l : List Nat) : eachL (aloneL f o) l = eachL f l &&& 2 ^ o := by
  have key : ∀ (l : List Nat) (t : Nat), l.foldl (fun t y => t &&& (aloneL f o).getD y 0) (t &&& 2 ^ o) = l.foldl (fun t y => t &&& f.getD y 0) t &&& 2 ^ o := by
    intro l
    induction l with
    | nil => exact fun _ => rfl
    | cons y l ih =>
      intro t
      show l.foldl _ (t &&& 2 ^ o &&& (aloneL f o).getD y 0) = l.foldl _ (t &&& f.getD y 0) &&& 2 ^ o
      rw [← ih, alone_at]
      congr 1
      rw [Nat.and_assoc, Nat.and_comm (2 ^ o) (f.getD y 0 &&& 2 ^ o), Nat.and_assoc (f.getD y 0), Nat.and_self, ← Nat.and_assoc]
  unfold eachL
  rw [alone_at]
  exact key l _
theorem any_alone (f : List Nat) (o : Nat) (l : List Nat) : anyL (aloneL f o) l = anyL f l &&& 2 ^ o := by
  have key : ∀ (l : List Nat) (t : Nat), l.foldl (fun t y => t ||| (aloneL f o).getD y 0) (t &&& 2 ^ o) = l.foldl (fun t y => t ||| f.getD y 0) t &&& 2 ^ o := by
    intro l
    induction l with
    | nil => exact fun _ => rfl
    | cons y l ih =>
      intro t
      show l.foldl _ (t &&& 2 ^ o ||| (aloneL f o).getD y 0) = l.foldl _ (t ||| f.getD y 0) &&& 2 ^ o
      rw [← ih, alone_at, Nat.and_or_distrib_right]
  unfold anyL
  have := key l 0
  rw [Nat.zero_and] at this
  exact this
theorem any_zero (g : Nat → Nat) : ∀ (l : List Nat) (t : Nat), l.foldl (fun t y => t ||| g y) t = 0 ↔ t = 0 ∧ ∀ y, y ∈ l → g y = 0
  | [], t => ⟨fun e => ⟨e, fun y hy => by cases hy⟩, fun e => e.1⟩
  | y :: l, t => by
    show l.foldl (fun t y => t ||| g y) (t ||| g y) = 0 ↔ _
    rw [any_zero g l]
    have e : t ||| g y = 0 ↔ t = 0 ∧ g y = 0 := Nat.or_eq_zero_iff
    rw [e]
    constructor
    · rintro ⟨⟨h1, h2⟩, h3⟩
      refine ⟨h1, fun z hz => ?_⟩
      rcases List.mem_cons.mp hz with q | q
      · rw [q]; exact h2
      · exact h3 z q
    · rintro ⟨h1, h2⟩
      exact ⟨⟨h1, h2 y (List.mem_cons_self ..)⟩, fun z hz => h2 z (List.mem_cons_of_mem _ hz)⟩
section
variable {a : Abs} (h : Good a)
include h
theorem has_k {o v : Nat} (ho : o < a.k) (hv : v < 2 ^ a.k) : has v o = !decide (v &&& 2 ^ o = 0) :=
  has_all o (Nat.lt_of_lt_of_le ho h.k3) v (Nat.lt_of_lt_of_le hv (Nat.pow_le_pow_right (by decide) h.k3))
/-! least -/
theorem least_is {o : Nat} (ho : o < a.k) : least a o = leastL a.f o := by
  unfold least leastL
  rw [h.len]
  refine fl_congr fun x hx => ?_
  have hx := mem_in h hx
  unfold leastAt
  rw [show has (at_ a x) o = !decide ((aloneL a.f o).getD x 0 = 0) by rw [alone_at]; exact has_k h ho (at_lt h x)]
  congr 1
  rw [Bool.eq_iff_iff, List.all_eq_true, decide_eq_true_eq]
  unfold anyL
  rw [any_zero]
  unfold lesserL
  rw [← parts_all a.n (n5 h) x hx]
  constructor
  · intro g
    refine ⟨rfl, fun y hy => ?_⟩
    rw [List.mem_filter, List.mem_filter] at hy
    obtain ⟨⟨hy1, hy2⟩, hy3⟩ := hy
    have g1 := g y hy1
    rw [partN h (List.mem_range.mp hy1) hx, hy2, show has (at_ a y) o = !decide ((aloneL a.f o).getD y 0 = 0) by rw [alone_at]; exact has_k h ho (at_lt h y)] at g1
    have hne : (y == x) = false := by
      rw [beq_eq_false_iff_ne]
      intro q
      rw [decide_eq_true q] at hy3
      cases hy3
    rw [hne] at g1
    by_cases q : (aloneL a.f o).getD y 0 = 0
    · exact q
    · rw [decide_eq_false q] at g1
      cases g1
  · rintro ⟨_, g⟩ y hy
    rw [partN h (mem_in h hy) hx, show has (at_ a y) o = !decide ((aloneL a.f o).getD y 0 = 0) by rw [alone_at]; exact has_k h ho (at_lt h y)]
    by_cases q1 : y = x
    · rw [q1, beq_self_eq_true]
      rfl
    · by_cases q2 : y &&& x = y
      · have g1 := g y (by
          rw [List.mem_filter, List.mem_filter]
          exact ⟨⟨hy, decide_eq_true q2⟩, by rw [decide_eq_false q1]; rfl⟩)
        rw [decide_eq_true g1, Bool.not_true, Bool.not_false, Bool.or_true]
      · rw [decide_eq_false q2, Bool.not_false, Bool.or_true, Bool.true_or]
/-! waits -/
theorem enough_is {x z o : Nat} (hx : x < 2 ^ a.n) (hz : z < 2 ^ a.n) (ho : o < a.k) : (meet a.n x z == 0 && has (sure a x z) o) = enoughAt a.f x o z := by
  unfold enoughAt
  rw [meetN h hx hz, h.len]
  by_cases q : x &&& z = 0
  · obtain ⟨e1, e2⟩ := sure_is h hx hz q
    rw [q, e1, has_k h ho e2, each_alone]
    rfl
  · rw [decide_eq_false q, show (x &&& z == 0) = false from beq_eq_false_iff_ne.mpr q]
    rfl
end
/-- the least by size, of these the first -/
def Best (p : Nat → Bool) (i z : Nat) : Prop := z < i ∧ p z = true ∧ ∀ y, y < i → p y = true → pop z < pop y ∨ (pop z = pop y ∧ z ≤ y)
theorem fewest_inv (f : List Nat) (x o : Nat) : ∀ i, ((List.range i).foldl (fewStep f x o) [] = [] ∧ ∀ z, z < i → enoughAt f x o z = false) ∨ ∃ z, (List.range i).foldl (fewStep f x o) [] = [pop z, z] ∧ Best (enoughAt f x o) i z
  | 0 => .inl ⟨rfl, fun z hz => absurd hz (Nat.not_lt_zero _)⟩
  | i + 1 => by
    rw [fold_range]
    rcases fewest_inv f x o i with ⟨e, g⟩ | ⟨z, e, b1, b2, b3⟩
    · rw [e]
      unfold fewStep
      cases q : enoughAt f x o i
      · refine .inl ⟨if_neg (by rw [Bool.false_and]; exact Bool.false_ne_true), fun z hz => ?_⟩
        rcases Nat.lt_succ_iff_lt_or_eq.mp hz with h | h
        · exact g z h
        · rw [h]; exact q
      · refine .inr ⟨i, if_pos (by rw [decide_eq_true rfl]; rfl), Nat.lt_succ_self i, q, fun y hy hp => ?_⟩
        rcases Nat.lt_succ_iff_lt_or_eq.mp hy with h | h
        · rw [g y h] at hp
          cases hp
        · rw [h]; exact .inr ⟨rfl, Nat.le_refl _⟩
    · rw [e]
      unfold fewStep
      rw [decide_eq_false (show ¬ ([pop z, z] : List Nat) = [] from fun q => by cases q), Bool.false_or, show ([pop z, z] : List Nat).getD 0 0 = pop z from rfl]
      cases q : enoughAt f x o i
      · refine .inr ⟨z, if_neg (by rw [Bool.false_and]; exact Bool.false_ne_true), Nat.lt_succ_of_lt b1, b2, fun y hy hp => ?_⟩
        rcases Nat.lt_succ_iff_lt_or_eq.mp hy with h | h
        · exact b3 y h hp
        · rw [h, q] at hp
          cases hp
      · by_cases q2 : pop i < pop z
        · refine .inr ⟨i, if_pos (by rw [decide_eq_true q2]; rfl), Nat.lt_succ_self i, q, fun y hy hp => ?_⟩
          rcases Nat.lt_succ_iff_lt_or_eq.mp hy with h | h
          · rcases b3 y h hp with c | c
            · exact .inl (Nat.lt_trans q2 c)
            · exact .inl (by omega)
          · rw [h]; exact .inr ⟨rfl, Nat.le_refl _⟩
        · refine .inr ⟨z, if_neg (by rw [decide_eq_false q2]; exact Bool.false_ne_true), Nat.lt_succ_of_lt b1, b2, fun y hy hp => ?_⟩
          rcases Nat.lt_succ_iff_lt_or_eq.mp hy with h | h
          · exact b3 y h hp
          · rw [h]
            omega
section
variable {a : Abs} (h : Good a)
include h
theorem waits_find {x o : Nat} : waits a x o = (List.range (a.n + 1)).findSome? fun k => (List.range (2 ^ a.n)).find? fun z => (size a.n z == k) && (meet a.n x z == 0 && has (sure a x z) o) := by
  unfold waits inOrder
  rw [List.find?_flatMap]
  refine fs_congr fun k _ => ?_
  rw [List.find?_filter]
  refine fd_congr fun z _ => ?_
  rw [Bool.decide_and, Bool.decide_eq_true, Bool.decide_eq_true]
theorem waits_is {x o : Nat} (hx : x < 2 ^ a.n) (ho : o < a.k) : (fewestL a.f x o = [] ∧ waits a x o = none) ∨ ∃ z, z < 2 ^ a.n ∧ fewestL a.f x o = [pop z, z] ∧ waits a x o = some z ∧ enoughAt a.f x o z = true := by
  unfold fewestL
  rw [h.len, waits_find h]
  rcases fewest_inv a.f x o (2 ^ a.n) with ⟨e, g⟩ | ⟨z, e, b1, b2, b3⟩
  · refine .inl ⟨e, fs_none fun k hk => fd_none fun z hz => ?_⟩
    rw [enough_is h hx hz ho, g z hz, Bool.and_false]
  · refine .inr ⟨z, b1, e, ?_, b2⟩
    refine fs_at (x := size a.n z) (Nat.lt_succ_of_le (size_le _ _)) (fun k hk => fd_none fun y hy => ?_) (fd_at b1 (fun y hy => ?_) ?_)
    · rw [enough_is h hx hy ho]
      cases q : enoughAt a.f x o y
      · rw [Bool.and_false]
      · have e2 := b3 y hy q
        rw [Bool.and_true, beq_eq_false_iff_ne, pop_all a.n (n5 h) y hy]
        rw [pop_all a.n (n5 h) z b1] at hk
        omega
    · have hy' : y < 2 ^ a.n := Nat.lt_trans hy b1
      rw [enough_is h hx hy' ho]
      cases q : enoughAt a.f x o y
      · rw [Bool.and_false]
      · have e2 := b3 y hy' q
        rw [Bool.and_true, beq_eq_false_iff_ne, pop_all a.n (n5 h) y hy', pop_all a.n (n5 h) z b1]
        omega
    · rw [enough_is h hx b1 ho, b2, beq_self_eq_true]
      rfl
/-- given of x: all but x's inputs are enough -/
theorem waits_some {x o : Nat} (hx : x < 2 ^ a.n) (ho : o < a.k) (hg : ¬ a.f.getD x 0 &&& 2 ^ o = 0) : ∃ z, z < 2 ^ a.n ∧ fewestL a.f x o = [pop z, z] ∧ waits a x o = some z := by
  obtain ⟨e1, e2⟩ := rest_all a.n (n5 h) x hx
  have hz : 2 ^ a.n - 1 - x < 2 ^ a.n := by have := pos_n h; omega
  have en : enoughAt a.f x o (2 ^ a.n - 1 - x) = true := by
    unfold enoughAt
    rw [decide_eq_true e2, h.len, e1, each_alone]
    have e3 : eachL a.f [x] = a.f.getD x 0 := by
      show a.f.getD x 0 &&& a.f.getD x 0 = a.f.getD x 0
      exact Nat.and_self _
    rw [e3, decide_eq_false hg]
    rfl
  rcases fewest_inv a.f x o (2 ^ a.n) with ⟨e, g⟩ | ⟨z, e, b1, b2, b3⟩
  · rw [g _ hz] at en
    cases en
  · rcases waits_is h hx ho with ⟨e4, _⟩ | ⟨z', b, c, d, _⟩
    · unfold fewestL at e4
      rw [h.len, e] at e4
      cases e4
    · exact ⟨z', b, c, d⟩
/-- not given of x: nothing is enough -/
theorem waits_none {x o : Nat} (hx : x < 2 ^ a.n) (ho : o < a.k) (hg : a.f.getD x 0 &&& 2 ^ o = 0) : waits a x o = none := by
  rcases waits_is h hx ho with ⟨_, e⟩ | ⟨z, hz, _, _, e⟩
  · exact e
  · exfalso
    unfold enoughAt at e
    rw [Bool.and_eq_true, decide_eq_true_eq, h.len, each_alone] at e
    obtain ⟨e1, e2⟩ := e
    have e3 : a.f.getD x 0 &&& eachL a.f (openL (2 ^ a.n) x z) = eachL a.f (openL (2 ^ a.n) x z) := each_in a.f x _ _ (open_in hx e1)
    have e4 : eachL a.f (openL (2 ^ a.n) x z) &&& 2 ^ o = 0 := by
      rw [← e3, Nat.and_assoc, Nat.and_comm (eachL a.f (openL (2 ^ a.n) x z)), ← Nat.and_assoc, hg, Nat.zero_and]
    rw [decide_eq_true e4] at e2
    cases e2
end
/-! orders -/
theorem steps0 : steps [] = stepsL [] := by decide +kernel
theorem steps1 : ∀ x, x < 4 → steps [x] = stepsL [x] := by decide +kernel
theorem steps2 : ∀ x, x < 4 → ∀ y, y < 4 → [x, y].Nodup → steps [x, y] = stepsL [x, y] := by decide +kernel
theorem steps3 : ∀ x, x < 4 → ∀ y, y < 4 → ∀ z, z < 4 → [x, y, z].Nodup → steps [x, y, z] = stepsL [x, y, z] := by decide +kernel
set_option synthInstance.maxSize 2000 in
set_option synthInstance.maxHeartbeats 400000 in
theorem steps4 : ∀ x, x < 4 → ∀ y, y < 4 → ∀ z, z < 4 → ∀ w, w < 4 → [x, y, z, w].Nodup → steps [x, y, z, w] = stepsL [x, y, z, w] := by decide +kernel
theorem steps_is {l : List Nat} (hl : l.length ≤ 4) (hv : ∀ i, i ∈ l → i < 4) (hn : l.Nodup) : steps l = stepsL l := by
  match l, hl, hv, hn with
  | [], _, _, _ => exact steps0
  | [x], _, hv, _ => exact steps1 x (hv x (by simp))
  | [x, y], _, hv, hn => exact steps2 x (hv x (by simp)) y (hv y (by simp)) hn
  | [x, y, z], _, hv, hn => exact steps3 x (hv x (by simp)) y (hv y (by simp)) z (hv z (by simp)) hn
  | [x, y, z, w], _, hv, hn => exact steps4 x (hv x (by simp)) y (hv y (by simp)) z (hv z (by simp)) w (hv w (by simp)) hn
  | _ :: _ :: _ :: _ :: _ :: _, hl, _, _ =>
    simp only [List.length_cons] at hl
    omega
theorem ors_lt {n : Nat} (g : Nat → Nat) : ∀ (l : List Nat) (t : Nat), t < 2 ^ n → (∀ k, k ∈ l → g k < 2 ^ n) → l.foldl (fun s k => s ||| g k) t < 2 ^ n
  | [], t, ht, _ => ht
  | y :: l, t, ht, hk => ors_lt g l (t ||| g y) (or_lt ht (hk y (List.mem_cons_self ..))) fun k h => hk k (List.mem_cons_of_mem _ h)
theorem orAt_lt {n t : Nat} {l : List Nat} (hv : ∀ i, i ∈ l → i < n) : orAt l t < 2 ^ n :=
  ors_lt (fun k => 2 ^ k) (l.take t) 0 (Nat.pow_pos (by decide)) fun k hk => Nat.pow_lt_pow_right (by decide) (hv k (List.mem_of_mem_take hk))
theorem steps_lt {n y : Nat} {l : List Nat} (hv : ∀ i, i ∈ l → i < n) (hy : y ∈ stepsL l) : y < 2 ^ n := by
  unfold stepsL at hy
  obtain ⟨t, _, e⟩ := List.mem_map.mp hy
  rw [← e]
  exact orAt_lt hv
theorem steps_len (l : List Nat) : (stepsL l).length = l.length + 1 := by
  unfold stepsL
  rw [List.length_map, List.length_range]
theorem steps_last (l : List Nat) : (stepsL l).getLastD 0 = orAt l l.length := by
  unfold stepsL
  rw [List.range_succ, List.map_append]
  show (_ ++ [orAt l l.length]).getLastD 0 = _
  rw [List.getLastD_eq_getLast?, List.getLast?_append]
  rfl
section
variable {a : Abs} (h : Good a)
include h
theorem wrong_is {l : List Nat} (hs : steps l = stepsL l) : wrong a l = anyL a.f (stepsL l) - (anyL a.f (stepsL l) &&& a.f.getD (orAt l l.length) 0) := by
  unfold wrong
  rw [hs, steps_last, (any_is h (stepsL l)).1]
  exact lessK h (any_is h (stepsL l)).2 (at_lt h _)
theorem worst_is {x : Nat} (hx : x < 2 ^ a.n) : everWrong a x = anyL a.f (partsL x) - (anyL a.f (partsL x) &&& a.f.getD x 0) := by
  unfold everWrong
  rw [parts_is h hx, (any_is h _).1]
  exact lessK h (any_is h _).2 (at_lt h _)
theorem together_is {l : List Nat} (hl : ∀ x, x ∈ l → x < 2 ^ a.n) : l.foldl (join a.n) 0 = orsL l ∧ orsL l < 2 ^ a.n :=
  fold_same (P := fun t => t < 2 ^ a.n) (f := join a.n) (g := fun s x => s ||| x) l 0 (pos_n h) fun t y ht hy => ⟨joinN h ht (hl y hy), or_lt ht (hl y hy)⟩
theorem apart_is (l : List Nat) : apart a l = anyL a.f l ∧ anyL a.f l < 2 ^ a.k := any_is h l
theorem whole_is {l : List Nat} (hl : ∀ x, x ∈ l → x < 2 ^ a.n) : whole a l = a.f.getD (orsL l) 0 := by
  unfold whole
  rw [(together_is h hl).1]
  rfl
end
end Ga

set_option linter.all false
namespace Ga
open Kh412
/-- a call by its number and its numbers -/
def clN (p : Nat) (ms : List Nat) : Kh412.Call := match p with
  | 0 => .begin_ (ms.getD 0 0) (ms.getD 1 0)
  | 1 => .answer (ms.getD 0 0) (ms.getD 1 0)
  | 2 => .table ms
  | 3 => .behind ms
  | 4 => .lift
  | 5 => .sink
  | 6 => .at_ (ms.getD 0 0)
  | 7 => .grows
  | 8 => .shrinks
  | 9 => .adds
  | 10 => .parts
  | 11 => .growsOne (ms.getD 0 0)
  | 12 => .sure (ms.getD 0 0) (ms.getD 1 0)
  | 13 => .may (ms.getD 0 0) (ms.getD 1 0)
  | 14 => .waits (ms.getD 0 0) (ms.getD 1 0)
  | 15 => .told ms
  | 16 => .wrong ms
  | 17 => .worst (ms.getD 0 0)
  | 18 => .apart ms
  | 19 => .least (ms.getD 0 0)
  | 20 => .up
  | 21 => .down
  | 22 => .grade
  | _ => .state
/-- how many numbers there are -/
def okN (p n : Nat) : Prop := match p with
  | 0 => n = 2
  | 1 => n = 2
  | 2 => n ≤ 16
  | 3 => n ≤ 8
  | 6 => n = 1
  | 11 => n = 1
  | 12 => n = 2
  | 13 => n = 2
  | 14 => n = 2
  | 15 => n ≤ 4
  | 16 => n ≤ 4
  | 17 => n = 1
  | 18 => n ≤ 4
  | 19 => n = 1
  | _ => n = 0
def rowP (p : Nat) : Bool := [2, 3, 15, 16, 18].contains p
def enc1 (c : Nat × List Nat) : List Nat := if rowP c.1 then c.1 :: c.2.length :: c.2 else c.1 :: c.2
def encs (cs : List (Nat × List Nat)) : List Nat := cs.flatMap enc1
def ofs (l : List Nat) : List Int := l.map Int.ofNat
def playN : Option Abs → List (Nat × List Nat) → List Int
  | _, [] => []
  | s, c :: r => (((doing s (clN c.1 c.2)).2.out.length + 1 : Nat) : Int) :: ((doing s (clN c.1 c.2)).2.ret :: (doing s (clN c.1 c.2)).2.out) ++ playN (doing s (clN c.1 c.2)).1 r
theorem ofs_toNat : ∀ {l : List Int}, (∀ z, z ∈ l → 0 ≤ z) → ofs (l.map Int.toNat) = l
  | [], _ => rfl
  | z :: l, h => by
    have ih := ofs_toNat (l := l) fun y hy => h y (List.mem_cons_of_mem _ hy)
    show Int.ofNat z.toNat :: ofs (l.map Int.toNat) = z :: l
    rw [ih]
    refine congrArg (· :: l) ?_
    exact Int.toNat_of_nonneg (h z (List.mem_cons_self ..))
theorem plain_call {p : Int} {r t : List Int} {c : List (List Int)} {n : Nat} (hs : PyKh412.shape p = some (n, 0)) (h : PyFlat.call PyKh412.shape (p :: r) = some (c, t)) : c = [p :: r.take n] ∧ t = r.drop n ∧ n ≤ r.length := by
  simp only [PyFlat.call, hs] at h
  by_cases q : r.length < n
  · simp only [q, if_true] at h
    cases h
  · simp only [q, if_false, PyFlat.rows] at h
    have e := Option.some.inj h
    exact ⟨(congrArg Prod.fst e).symm, (congrArg Prod.snd e).symm, Nat.le_of_not_lt q⟩
theorem row_call {p : Int} {r t : List Int} {c : List (List Int)} (hs : PyKh412.shape p = some (0, 1)) (h : PyFlat.call PyKh412.shape (p :: r) = some (c, t)) : ∃ m r', r = m :: r' ∧ 0 ≤ m ∧ m.toNat ≤ r'.length ∧ c = [[p], r'.take m.toNat] ∧ t = r'.drop m.toNat := by
  simp only [PyFlat.call, hs] at h
  simp only [Nat.not_lt_zero, if_false, List.drop_zero, List.take_zero, PyFlat.rows] at h
  cases r with
  | nil =>
    simp only [PyFlat.row] at h
    cases h
  | cons m r' =>
    by_cases q : 0 ≤ m ∧ m.toNat ≤ r'.length
    · simp only [PyFlat.row, q, and_self, if_true] at h
      have e := Option.some.inj h
      exact ⟨m, r', rfl, q.1, q.2, (congrArg Prod.fst e).symm, (congrArg Prod.snd e).symm⟩
    · simp only [PyFlat.row, q, if_false] at h
      cases h
theorem shape_is {p : Int} {nk : Nat × Nat} (h : PyKh412.shape p = some nk) : ∃ q : Nat, q < 24 ∧ p = (q : Int) := by
  by_cases h0 : 0 ≤ p ∧ p < 24
  · exact ⟨p.toNat, by omega, by omega⟩
  · exfalso
    unfold PyKh412.shape at h
    repeat (rw [if_neg (by omega)] at h)
    cases h
theorem take2 {r : List Int} (h : 2 ≤ r.length) : ∃ x y s, r = x :: y :: s := match r, h with
  | x :: y :: s, _ => ⟨x, y, s, rfl⟩
theorem take1 {r : List Int} (h : 1 ≤ r.length) : ∃ x s, r = x :: s := match r, h with
  | x :: s, _ => ⟨x, s, rfl⟩
/-- what one call is read as -/
def Reads (p : Int) (r t : List Int) (c : List (List Int)) : Prop := ∃ (q : Nat) (ms : List Nat), q < 24 ∧ okN q ms.length ∧ p :: r = ofs (enc1 (q, ms)) ++ t ∧ Kh412Neutral.callOf1 (PyKh412.whole c) = clN q ms
theorem row_reads {q : Nat} {r t : List Int} {c : List (List Int)} {most : Nat} (hq : q < 24) (hw : rowP q = true) (hs : PyKh412.shape (q : Int) = some (0, 1)) (hb : PyKh412.bound (q : Int) = ([], [(0, 2147483647, 0, most)])) (ho : ∀ n, n ≤ most → okN q n)
    (hc : ∀ l : List Int, Kh412Neutral.callOf1 (PyKh412.whole [[(q : Int)], l]) = clN q (l.map Int.toNat))
    (h : PyFlat.call PyKh412.shape ((q : Int) :: r) = some (c, t)) (hz : ∀ z, z ∈ r → 0 ≤ z) (hi : PyInside.call PyKh412.bound c = true) : Reads (q : Int) r t c := by
  obtain ⟨m, r', rfl, hm, hl, rfl, rfl⟩ := row_call hs h
  have hi2 : (PyInside.each (PyKh412.bound (q : Int)).1 [] && PyInside.lists (PyKh412.bound (q : Int)).2 [r'.take m.toNat]) = true := hi
  rw [hb] at hi2
  have hlen : (r'.take m.toNat).length = m.toNat := by
    rw [List.length_take]
    omega
  have h16 : (r'.take m.toNat).length ≤ most := by
    simp only [PyInside.each, PyInside.lists, Bool.true_and, Bool.and_true, Bool.and_eq_true, decide_eq_true_eq] at hi2
    exact hi2.1.2
  have hz2 : ∀ z, z ∈ r'.take m.toNat → 0 ≤ z := fun z h => hz z (List.mem_cons_of_mem _ (List.mem_of_mem_take h))
  refine ⟨q, (r'.take m.toNat).map Int.toNat, hq, ho _ (by rw [List.length_map]; exact h16), ?_, hc _⟩
  unfold enc1
  rw [if_pos hw]
  show (q : Int) :: m :: r' = Int.ofNat q :: Int.ofNat ((r'.take m.toNat).map Int.toNat).length :: ofs ((r'.take m.toNat).map Int.toNat) ++ r'.drop m.toNat
  rw [ofs_toNat hz2, List.length_map, hlen]
  show (q : Int) :: m :: r' = (q : Int) :: (m.toNat : Int) :: (r'.take m.toNat ++ r'.drop m.toNat)
  rw [List.take_append_drop, Int.toNat_of_nonneg hm]
theorem plain_reads {q n : Nat} {r t : List Int} {c : List (List Int)} (hq : q < 24) (hw : rowP q = false) (hs : PyKh412.shape (q : Int) = some (n, 0)) (ho : okN q n)
    (hc : ∀ l : List Int, l.length = n → Kh412Neutral.callOf1 (PyKh412.whole [(q : Int) :: l]) = clN q (l.map Int.toNat))
    (h : PyFlat.call PyKh412.shape ((q : Int) :: r) = some (c, t)) (hz : ∀ z, z ∈ r → 0 ≤ z) : Reads (q : Int) r t c := by
  obtain ⟨rfl, rfl, hl⟩ := plain_call hs h
  have hlen : (r.take n).length = n := by
    rw [List.length_take]
    omega
  have hz2 : ∀ z, z ∈ r.take n → 0 ≤ z := fun z h => hz z (List.mem_of_mem_take h)
  refine ⟨q, (r.take n).map Int.toNat, hq, by rw [List.length_map, hlen]; exact ho, ?_, hc _ hlen⟩
  unfold enc1
  rw [if_neg (by rw [hw]; exact Bool.false_ne_true)]
  show (q : Int) :: r = Int.ofNat q :: ofs ((r.take n).map Int.toNat) ++ r.drop n
  rw [ofs_toNat hz2]
  show (q : Int) :: r = (q : Int) :: (r.take n ++ r.drop n)
  rw [List.take_append_drop]
theorem len2 {l : List Int} (h : l.length = 2) : ∃ x y, l = [x, y] := match l, h with
  | [x, y], _ => ⟨x, y, rfl⟩
theorem len1 {l : List Int} (h : l.length = 1) : ∃ x, l = [x] := match l, h with
  | [x], _ => ⟨x, rfl⟩
theorem len0 {l : List Int} (h : l.length = 0) : l = [] := List.eq_nil_of_length_eq_zero h
theorem call_reads {p : Int} {r t : List Int} {c : List (List Int)} (h : PyFlat.call PyKh412.shape (p :: r) = some (c, t)) (hz : ∀ z, z ∈ r → 0 ≤ z) (hi : PyInside.call PyKh412.bound c = true) : Reads p r t c := by
  have hp : ∃ q : Nat, q < 24 ∧ p = (q : Int) := by
    cases e : PyKh412.shape p with
    | none =>
      simp only [PyFlat.call, e] at h
      cases h
    | some nk => exact shape_is e
  obtain ⟨q, hq, rfl⟩ := hp
  have two2 : ∀ (n : Nat) , True := fun _ => trivial
  have d : q = 0 ∨ q = 1 ∨ q = 2 ∨ q = 3 ∨ q = 4 ∨ q = 5 ∨ q = 6 ∨ q = 7 ∨ q = 8 ∨ q = 9 ∨ q = 10 ∨ q = 11 ∨ q = 12 ∨ q = 13 ∨ q = 14 ∨ q = 15 ∨ q = 16 ∨ q = 17 ∨ q = 18 ∨ q = 19 ∨ q = 20 ∨ q = 21 ∨ q = 22 ∨ q = 23 := by omega
  rcases d with rfl | rfl | rfl | rfl | rfl | rfl | rfl | rfl | rfl | rfl | rfl | rfl | rfl | rfl | rfl | rfl | rfl | rfl | rfl | rfl | rfl | rfl | rfl | rfl
  all_goals first
    | exact row_reads hq rfl rfl rfl (fun n h => h) (fun l => rfl) h hz hi
    | exact plain_reads (n := 2) hq rfl rfl rfl (fun l hl => by obtain ⟨x, y, rfl⟩ := len2 hl; rfl) h hz
    | exact plain_reads (n := 1) hq rfl rfl rfl (fun l hl => by obtain ⟨x, rfl⟩ := len1 hl; rfl) h hz
    | exact plain_reads (n := 0) hq rfl rfl rfl (fun l hl => by rw [len0 hl]; rfl) h hz
theorem calls_read : ∀ (f : Nat) (l : List Int) (raw : List (List (List Int))), PyFlat.calls PyKh412.shape f l = some raw → (∀ z, z ∈ l → 0 ≤ z) → PyInside.calls PyKh412.bound raw = true →
    ∃ cs : List (Nat × List Nat), l = ofs (encs cs) ∧ (raw.map PyKh412.whole).map Kh412Neutral.callOf1 = cs.map (fun c => clN c.1 c.2) ∧ ∀ c, c ∈ cs → c.1 < 24 ∧ okN c.1 c.2.length
  | f, [], raw, h, _, _ => by
    have h' : some ([] : List (List (List Int))) = some raw := by cases f <;> exact h
    have e := Option.some.inj h'
    subst e
    exact ⟨[], rfl, rfl, fun c hc => by cases hc⟩
  | 0, _ :: _, _, h, _, _ => by cases h
  | f + 1, p :: r, raw, h, hz, hi => by
    simp only [PyFlat.calls] at h
    cases e : PyFlat.call PyKh412.shape (p :: r) with
    | none =>
      rw [e] at h
      cases h
    | some ct =>
      obtain ⟨c, t⟩ := ct
      rw [e] at h
      cases e2 : PyFlat.calls PyKh412.shape f t with
      | none =>
        simp only [e2] at h
        cases h
      | some ds =>
        simp only [e2] at h
        have e3 := Option.some.inj h
        subst e3
        have hi' : (PyInside.call PyKh412.bound c && PyInside.calls PyKh412.bound ds) = true := hi
        rw [Bool.and_eq_true] at hi'
        obtain ⟨q, ms, hq, ho, el, ec⟩ := call_reads e (fun z hz' => hz z (List.mem_cons_of_mem _ hz')) hi'.1
        have hzt : ∀ z, z ∈ t → 0 ≤ z := fun z hz' => hz z (by rw [el]; exact List.mem_append_right _ hz')
        obtain ⟨cs, h1, h2, h3⟩ := calls_read f t ds e2 hzt hi'.2
        refine ⟨(q, ms) :: cs, ?_, ?_, fun x hx => ?_⟩
        · rw [el, h1]
          show ofs (enc1 (q, ms)) ++ ofs (encs cs) = ofs (enc1 (q, ms) ++ encs cs)
          unfold ofs
          rw [List.map_append]
        · rw [List.map_cons, List.map_cons, List.map_cons, h2, ec]
        · rcases List.mem_cons.mp hx with e | m
          · rw [e]
            exact ⟨hq, ho⟩
          · exact h3 x m
theorem told_played : ∀ (raw : List (List (List Int))) (cs : List (Nat × List Nat)) (s : Option Abs), raw.map Kh412Neutral.callOf1 = cs.map (fun c => clN c.1 c.2) → PyFlat.told (PyFlat.played Kh412Neutral.step s raw) = playN s cs
  | [], [], s, _ => rfl
  | [], _ :: _, s, h => by cases h
  | _ :: _, [], s, h => by cases h
  | c :: raw, d :: cs, s, h => by
    obtain ⟨h1, h2⟩ := List.cons.inj h
    have ih := told_played raw cs (doing s (clN d.1 d.2)).1 h2
    have e : Kh412Neutral.step s c = ((doing s (clN d.1 d.2)).1, (doing s (clN d.1 d.2)).2.ret :: (doing s (clN d.1 d.2)).2.out) := by
      unfold Kh412Neutral.step
      rw [h1]
    show PyFlat.told ((Kh412Neutral.step s c).2 :: PyFlat.played Kh412Neutral.step (Kh412Neutral.step s c).1 raw) = _
    rw [e]
    show (((_ :: _ : List Int).length : Nat) : Int) :: (_ :: _) ++ PyFlat.told (PyFlat.played Kh412Neutral.step (doing s (clN d.1 d.2)).1 raw) = _
    rw [ih]
    rfl
theorem asked_is {l : List Int} (h : PyKh412.answers_asked l = true) (hz : ∀ z, z ∈ l → 0 ≤ z) : ∃ cs : List (Nat × List Nat), l = ofs (encs cs) ∧ PyKh412.answers l = playN none cs ∧ (∀ c, c ∈ cs → c.1 < 24 ∧ okN c.1 c.2.length) ∧ (playN none cs).length ≤ 10000000 := by
  unfold PyKh412.answers_asked at h
  cases e : PyFlat.calls PyKh412.shape l.length l with
  | none =>
    rw [e] at h
    cases h
  | some raw =>
    simp only [e, Bool.and_eq_true] at h
    obtain ⟨⟨⟨⟨_, _⟩, h3⟩, _⟩, h5⟩ := h
    obtain ⟨cs, h1, h2, h4⟩ := calls_read _ _ _ e hz h3
    have ea : PyKh412.answers l = playN none cs := by
      unfold PyKh412.answers PyKh412.calls
      rw [e]
      exact told_played _ _ _ h2
    refine ⟨cs, h1, ea, h4, ?_⟩
    rw [← ea]
    exact of_decide_eq_true h5
end Ga

set_option Elab.async false
set_option maxRecDepth 100000
set_option maxHeartbeats 2000000
namespace Ga
open PySem PySem.Spec PyProof.Rows L2
open PySem.W (Codec)
/-! ### defs, methods, classes under their names -/
section
variable (P : Program) (w : World) (K : PySem.W.Frag) (mg : Str → Option Value) (base : Heap)
structure Fn (k : Nat) (x : Str) (f : Addr) (sp : Sp) : Prop where
  ex : ∃ (fd : FuncData) (ps : List Str), FnOk P w K mg base CX0 k f fd ps sp ∧ Binds K fd ps []
  mgf : mg x = some (.ref f)
  kp : PySem.W.keepIn K (.ref f) = true
structure Met (k : Nat) (C : Addr) (m : Str) (sp : Sp) : Prop where
  ex : ∃ (f : Addr) (fd : FuncData) (ps : List Str), Meth K C m f ∧ FnOk P w K mg base CX0 k f fd ps sp ∧ Binds K fd ps []
  cl : Cls K C
structure Mak (k : Nat) (x : Str) (C : Addr) (sp : Sp) : Prop where
  ex : ∃ (f : Addr) (fd : FuncData) (ps : List Str), Mk K C f ∧ FnOk P w K mg base CX0 k f fd ps sp ∧ Binds K fd ps []
  mgc : mg x = some (.ref C)
end
section
variable {X : Cx} {k j : Nat} {C f : Addr} {x m : Str} {sp : Sp} {p pos apos : Pos} {e o : Expr} {es : List Expr} {ta : TE} {t : TA}
theorem pe_fn (c : Fn X.prog X.w X.K X.mg X.base k x f sp) (hr : Room j X.A) (hk : k ≤ j) (hg : Gl X x) (ha : PA X (e :: es) t)
    (hdb : (x == ("__debug__" : Str)) = false := by decide) (he : starEach (e :: es) X.env = (false, eval e X.env) :: starEach es X.env := by rfl) (hpl : (backTo pos (starEach es X.env)).any (·.1) = false := by rfl) :
    PE X (.Call (.Name x p) (e :: es) [] pos) (tCall sp [] E0 t) := by
  obtain ⟨fd, ps, F, b⟩ := c.ex
  exact pe_call F (hr.mono hk) hg c.mgf c.kp b .nil pass0 ha hdb he hpl
theorem pe_mk0 (c : Mak X.prog X.w X.K X.mg X.base k x C sp) (hr : Room j X.A) (hk : k + 1 ≤ j) (hg : Gl X x)
    (hdb : (x == ("__debug__" : Str)) = false := by decide) : PE X (.Call (.Name x p) [] [] pos) (tMake C sp [] E0 tNil) := by
  obtain ⟨f, fd, ps, M, F, b⟩ := c.ex
  exact pe_make0 M F (hr.mono hk) hg c.mgc b .nil pass0 hdb
theorem pe_met {pl : Sem Bool} (c : Met X.prog X.w X.K X.mg X.base k C m sp) (hr : Room j X.A) (hk : k ≤ j) (he : PE X o ta) (ha : PA X (e :: es) t)
    (hst : starEach (e :: es) X.env = (false, eval e X.env) :: starEach es X.env := by rfl) (hpl : (backTo pos (starEach es X.env)).any (·.1) = false := by rfl)
    (ht : eval (.Call (.Attribute o m apos) (e :: es) [] pos) X.env = (do
      let ov ← eval o X.env
      standAt apos.atName
      let (f, first) ← holding [ov] (getMethod ov m pl)
      callWith pos f first (backTo pos (starEach (e :: es) X.env)) (backToKw pos (keywordEach [] X.env))) := by rfl) :
    PE X (.Call (.Attribute o m apos) (e :: es) [] pos) (tMeth C m sp [] E0 ta t) := by
  obtain ⟨f, fd, ps, hm, F, b⟩ := c.ex
  exact pe_meth (pl := pl) he c.cl hm F (hr.mono hk) b .nil pass0 ha hst hpl ht
theorem pe_met0 {pl : Sem Bool} (c : Met X.prog X.w X.K X.mg X.base k C m sp) (hr : Room j X.A) (hk : k ≤ j) (he : PE X o ta)
    (ht : eval (.Call (.Attribute o m apos) [] [] pos) X.env = (do
      let ov ← eval o X.env
      standAt apos.atName
      let (f, first) ← holding [ov] (getMethod ov m pl)
      callWith pos f first (backTo pos (starEach [] X.env)) (backToKw pos (keywordEach [] X.env))) := by rfl) :
    PE X (.Call (.Attribute o m apos) [] [] pos) (tMeth C m sp [] E0 ta tNil) := by
  obtain ⟨f, fd, ps, hm, F, b⟩ := c.ex
  exact pe_meth0 (pl := pl) he c.cl hm F (hr.mono hk) b .nil pass0 ht
end
section
variable {P : Program} {w : World} {K : PySem.W.Frag} {mg : Str → Option Value} {base : Heap}
/-- a def as it stands behind the top, with its name and its parameters -/
structure Dn (K : PySem.W.Frag) (mg : Str → Option Value) (x : Str) (st : Stmt) (f : Addr) (ps : List Str) : Prop where
  ex : ∃ fd : FuncData, Fun K x x st f fd ∧ Binds K fd ps []
  mgf : mg x = some (.ref f)
theorem Dn.fn {x : Str} {st : Stmt} {f : Addr} {N ps : List Str} {k : Nat} {sp : Sp} (D : Dn K mg x st f ps) (S : FnScope N ps (defScope st)) (len : ∀ vs H Q E, sp vs H Q E → vs.length = ps.length)
    (hbody : ∀ (cdv : Value) (A : Around) (outer : List Env) (s : Shared) (H : Hp) (vs : List V) (Q : VK) (E : XK), Room k (A.deeper (envOfC x (defScope st) s.heap.objs.size f cdv)) → sp vs H Q E →
      ∃ t, PSs (cxOf CX0 P w K mg base N x (defScope st) f cdv A outer s H E).nox (defBody st) t ∧ t { nx := fun _ H' => Q .non H', rt := Q } (start N vs) H) : Fn P w K mg base (k + 1) x f sp := by
  obtain ⟨fd, F, b⟩ := D.ex
  exact ⟨⟨fd, ps, F.ok S len hbody, b⟩, D.mgf, F.kp⟩
/-- a method of the class at C -/
structure Dm (K : PySem.W.Frag) (C : Addr) (m qual : Str) (st : Stmt) (f : Addr) (ps : List Str) : Prop where
  ex : ∃ fd : FuncData, Fun K m qual st f fd ∧ Binds K fd ps []
  me : Meth K C m f
theorem Dm.met {m qual : Str} {C : Addr} {st : Stmt} {f : Addr} {N ps : List Str} {k : Nat} {sp : Sp} (D : Dm K C m qual st f ps) (c : Cls K C) (S : FnScope N ps (defScope st)) (len : ∀ vs H Q E, sp vs H Q E → vs.length = ps.length)
    (hbody : ∀ (cdv : Value) (A : Around) (outer : List Env) (s : Shared) (H : Hp) (vs : List V) (Q : VK) (E : XK), Room k (A.deeper (envOfC qual (defScope st) s.heap.objs.size f cdv)) → sp vs H Q E →
      ∃ t, PSs (cxOf CX0 P w K mg base N qual (defScope st) f cdv A outer s H E).nox (defBody st) t ∧ t { nx := fun _ H' => Q .non H', rt := Q } (start N vs) H) : Met P w K mg base (k + 1) C m sp := by
  obtain ⟨fd, F, b⟩ := D.ex
  exact ⟨⟨f, fd, ps, D.me, F.ok S len hbody, b⟩, c⟩
/-- a class made by its name -/
structure Dk (K : PySem.W.Frag) (mg : Str → Option Value) (x : Str) (C : Addr) (qual : Str) (st : Stmt) (f : Addr) (ps : List Str) : Prop where
  ex : ∃ fd : FuncData, Fun K "__init__" qual st f fd ∧ Binds K fd ps []
  mk1 : Mk K C f
  mgc : mg x = some (.ref C)
theorem Dk.mak {x qual : Str} {C : Addr} {st : Stmt} {f : Addr} {N ps : List Str} {k : Nat} {sp : Sp} (D : Dk K mg x C qual st f ps) (S : FnScope N ps (defScope st)) (len : ∀ vs H Q E, sp vs H Q E → vs.length = ps.length)
    (hbody : ∀ (cdv : Value) (A : Around) (outer : List Env) (s : Shared) (H : Hp) (vs : List V) (Q : VK) (E : XK), Room k (A.deeper (envOfC qual (defScope st) s.heap.objs.size f cdv)) → sp vs H Q E →
      ∃ t, PSs (cxOf CX0 P w K mg base N qual (defScope st) f cdv A outer s H E).nox (defBody st) t ∧ t { nx := fun _ H' => Q .non H', rt := Q } (start N vs) H) : Mak P w K mg base (k + 1) x C sp := by
  obtain ⟨fd, F, b⟩ := D.ex
  exact ⟨⟨f, fd, ps, D.mk1, F.ok S len hbody, b⟩, D.mgc⟩
end
/-! ### tests -/
theorem iteI {c : Bool} {A B : Prop} (h1 : c = true → A) (h2 : c = false → B) : if c = true then A else B := by
  cases c
  · exact iteF (h2 rfl)
  · exact iteT (h1 rfl)
theorem int_eq (x y : Int) : decide (V.int x = V.int y) = decide (x = y) := by
  by_cases h : x = y
  · rw [h, decide_eq_true rfl, decide_eq_true rfl]
  · rw [decide_eq_false h]
    exact decide_eq_false fun q => h (V.int.inj q)
/-! ### numbers as values -/
def iv (l : List Nat) : List V := l.map fun v : Nat => V.int (v : Int)
theorem iv_len (l : List Nat) : (iv l).length = l.length := by unfold iv; rw [List.length_map]
theorem iv_get {l : List Nat} {i : Nat} (h : i < l.length) : (iv l)[i]? = some (.int (l.getD i 0 : Nat)) := by
  unfold iv
  rw [List.getElem?_map, List.getElem?_eq_getElem h, List.getD_eq_getElem?_getD, List.getElem?_eq_getElem h]
  rfl
theorem iv_at {l : List Nat} {i : Nat} {z : Int} (e : z = (i : Int)) (h : i < l.length) : atI (iv l) z = some (.int (l.getD i 0 : Nat)) := at_of e (iv_get h)
theorem iv_app (l m : List Nat) : iv (l ++ m) = iv l ++ iv m := by unfold iv; rw [List.map_append]
theorem iv_set (l : List Nat) (i v : Nat) : (iv l).set i (.int (v : Int)) = iv (l.set i v) := by
  unfold iv
  rw [List.map_set]
theorem and_nat (a b : Nat) : Builtin.bitAnd (a : Int) (b : Int) = ((a &&& b : Nat) : Int) := by
  rw [bitAnd_pp (Int.natCast_nonneg _) (Int.natCast_nonneg _), Int.toNat_natCast, Int.toNat_natCast]
theorem or_nat (a b : Nat) : Builtin.bitOr (a : Int) (b : Int) = ((a ||| b : Nat) : Int) := by
  rw [Bits.bitOr_pp (Int.natCast_nonneg _) (Int.natCast_nonneg _), Int.toNat_natCast, Int.toNat_natCast]
theorem less_nat (a b : Nat) : Builtin.bitAnd (a : Int) (Builtin.bitNot (b : Int)) = ((a - (a &&& b) : Nat) : Int) := by
  have h1 : ¬ 0 ≤ Builtin.bitNot (b : Int) := by
    unfold Builtin.bitNot
    omega
  have h2 : Builtin.bitNot (Builtin.bitNot (b : Int)) = (b : Int) := by
    unfold Builtin.bitNot
    omega
  have h3 : a &&& b ≤ a := Nat.and_le_left
  rw [bitAnd_pn (Int.natCast_nonneg _) h1, h2, Int.toNat_natCast, Int.toNat_natCast]
  omega
end Ga

set_option Elab.async false
set_option maxRecDepth 100000
set_option maxHeartbeats 2000000
namespace Ga
open PySem PySem.Spec PyProof.Rows L2
def top (i : Nat) : Stmt := PySem.Challenge.pw_growinganswers_s01_answers.main.body.getD i (.Pass ⟨0, 0, 0, 0⟩)
def IsC (mg : Str → Option Value) (x : Str) (i : Int) : Prop := ∃ t, mg x = some (.int i t)
theorem pe_gi {X : Cx} {x : Str} {i : Int} {pos : Pos} (h : IsC X.mg x i) (hg : Gl X x) (hdb : (x == ("__debug__" : Str)) = false := by decide) : PE X (.Name x pos) (tC (.int i)) := by
  obtain ⟨t, h⟩ := h
  exact pe_glob hg h ⟨_, rfl⟩ hdb
theorem pe_gr {X : Cx} {x : Str} {a : Addr} {pos : Pos} (h : X.mg x = some (.ref a)) (hg : Gl X x) (hdb : (x == ("__debug__" : Str)) = false := by decide) : PE X (.Name x pos) (tC (.ref a)) := pe_glob hg h rfl hdb
structure Txt (K : PySem.W.Frag) (mg : Str → Option Value) (C : Addr) : Prop where
  cl : Cls K C
  n_given : NoAttr K C "given"
  n_answer_count : NoAttr K C "answer_count"
  b_len : mg "len" = none
  b_range : mg "range" = none
  b_list : mg "list" = none
  b_all : mg "all" = none
  c_NOT_BEGUN : IsC mg "NOT_BEGUN" (-61)
  c_NOT_AS_TOLD : IsC mg "NOT_AS_TOLD" (-22)
  c_NO_SUCH_ANSWER : IsC mg "NO_SUCH_ANSWER" (-2)
  c_NOTHING_TO_SHOW : IsC mg "NOTHING_TO_SHOW" (-33)
  c_MOST_INPUTS : IsC mg "MOST_INPUTS" 4
  c_MOST_ANSWERS : IsC mg "MOST_ANSWERS" 3
  c_BEGIN : IsC mg "BEGIN" 0
/-! ### mirrors of the helpers -/
def spIsPart : Sp := fun vs H Q _ => ∃ x y : Nat, vs = [.int (x : Int), .int (y : Int)] ∧ Q (.bl (decide (x &&& y = x))) H
/-- a def that reads one list of numbers and hands back a new one -/
def spNew (K : PySem.W.Frag) (g : List Nat → List Nat) : Sp := fun vs H Q _ => ∃ (a : Addr) (f : List Nat), vs = [.ref a] ∧ SqL K H a (iv f) ∧ (∃ n, n ≤ 4 ∧ f.length = 2 ^ n) ∧
  ∀ (H' : Hp) (p : Addr), Same H H' → H p = none → H' p = some (.lst (iv (g f))) → Q (.ref p) H'
theorem len16 {l : Nat} (h : ∃ n, n ≤ 4 ∧ l = 2 ^ n) : l ≤ 16 := by
  obtain ⟨n, hn, e⟩ := h
  rw [e]
  exact Nat.pow_le_pow_right (by decide) hn
theorem Same.new {H : Hp} {p : Addr} {o : HO} (h : H p = none) : Same H (upd H p o) := fun b u e => by
  rw [upd_ne (ne_of_none e h)]
  exact e
abbrev s_is_part : Stmt := top 11
abbrev s_first_loss : Stmt := top 17
section
variable {P : Program} {w : World} {K : PySem.W.Frag} {mg : Str → Option Value} {base : Heap} {C : Addr}
theorem sc_is_part : FnScope ["x", "y"] ["x", "y"] (defScope s_is_part) := ⟨rfl, rfl, rfl, by decide +kernel, rfl, by decide +kernel, by decide +kernel⟩
theorem ok_is_part {f : Addr} (D : Dn K mg "is_part" s_is_part f ["x", "y"]) : Fn P w K mg base 1 "is_part" f spIsPart := by
  refine D.fn sc_is_part (fun vs H Q E h => ?_) (fun cdv A outer s H vs Q E hr h => ?_)
  · obtain ⟨x, y, rfl, _⟩ := h
    rfl
  · obtain ⟨x, y, rfl, k⟩ := h
    refine ⟨_, (pss_one (ps_ret (pe_cmpR op_eq (pe_op op_and (pv 0) (pv 1)) (pv 0) (nomark _)))), ?_⟩
    refine ⟨_, rfl, _, rfl, _, _, rfl, rfl, _, rfl, rfl, ?_⟩
    rw [int_eq, and_nat]
    have e : decide (((x &&& y : Nat) : Int) = (x : Int)) = decide (x &&& y = x) := by
      rw [decide_eq_decide]
      omega
    rw [e]
    exact k
theorem sc_first_loss : FnScope ["given", "x", "y", "lost"] ["given"] (defScope s_first_loss) := ⟨rfl, rfl, rfl, by decide +kernel, rfl, by decide +kernel, by decide +kernel⟩
theorem ok_first_loss {f f1 : Addr} (D : Dn K mg "first_loss" s_first_loss f ["given"]) (T : Txt K mg C) (G_is_part : Fn P w K mg base 1 "is_part" f1 spIsPart) : Fn P w K mg base 2 "first_loss" f (spNew K lossL) := by
  refine D.fn sc_first_loss (fun vs H Q E h => ?_) (fun cdv A outer s H vs Q E hr h => ?_)
  · obtain ⟨a, l, rfl, _⟩ := h
    rfl
  · obtain ⟨a, l, rfl, hS, hl, k⟩ := h
    have hl := len16 hl
    refine ⟨_, (pss_cons (ps_for PassesOwn.never rfl (pi_range1 rfl T.b_range (pa_cons (pe_callB call_len_seq (by rfl) T.b_len PySem.boot_len (pa_cons (pv 0) pa_nil)) pa_nil)) (pg_name (i := 1) sc_first_loss.nd rfl (Or.inl rfl))
        (pss_one (ps_for PassesOwn.never rfl (pi_range1 rfl T.b_range (pa_cons (pe_callB call_len_seq (by rfl) T.b_len PySem.boot_len (pa_cons (pv 0) pa_nil)) pa_nil)) (pg_name (i := 2) sc_first_loss.nd rfl (Or.inl rfl))
          (pss_cons (ps_set (i := 3) sc_first_loss.nd rfl (Or.inl rfl) (pe_op op_and (pe_ix ix_list (pv 0) (pv 1) (fun _ _ => rfl)) (pe_un un_inv (pe_ix ix_list (pv 0) (pv 2) (fun _ _ => rfl)))))
          (pss_one (ps_if (PW.pt (pw_and (pt_val (pe_fn G_is_part hr (by decide) rfl (pa_cons (pv 1) (pa_cons (pv 2) pa_nil)))) (pw_and1 (pt_cmpR op_ne (pv 3) pe_int (nomark _)))))
            (pss_one (ps_ret (pe_lst (pa_cons (pv 1) (pa_cons (pv 2) (pa_cons (pv 3) pa_nil))))))
            pss_nil))))))
      (pss_one (ps_ret (pe_lst pa_nil)))), ?_⟩
    have hlen : (((iv l).length : Nat) : Int).toNat = l.length := by rw [iv_len]; omega
    refine ⟨_, rfl, a, _, rfl, .inl hS, _, rfl, ?_, ?_, ?_⟩
    · omega
    · rw [iv_len]; omega
    rw [hlen]
    refine for_range (n := l.length) (fun i σ H' => H = H' ∧ (∃ v1 v2 v3, σ = [some (.ref a), v1, v2, v3]) ∧ ∀ x, x < i → (List.range l.length).find? (lossAt l x) = none) ⟨rfl, ⟨_, _, _, rfl⟩, fun x hx => absurd hx (Nat.not_lt_zero _)⟩ ?_ ?_
    · rintro i σ H' hi ⟨rfl, ⟨v1, v2, v3, rfl⟩, hn⟩
      rw [Int.zero_add]
      refine ⟨_, rfl, a, _, rfl, .inl hS, _, rfl, ?_, ?_, ?_⟩
      · omega
      · rw [iv_len]; omega
      rw [hlen]
      refine for_range (n := l.length) (fun j σ H' => H = H' ∧ (∃ v2 v3, σ = [some (.ref a), some (.int (i : Int)), v2, v3]) ∧ ∀ y, y < j → lossAt l i y = false) ⟨rfl, ⟨_, _, rfl⟩, fun x hx => absurd hx (Nat.not_lt_zero _)⟩ ?_ ?_
      · rintro j σ H' hj ⟨rfl, ⟨v2, v3, rfl⟩, hm⟩
        rw [Int.zero_add]
        refine ⟨_, rfl, _, rfl, a, _, _, _, rfl, rfl, hS, iv_at rfl hi, _, rfl, _, rfl, a, _, _, _, rfl, rfl, hS, iv_at rfl hj, _, rfl, _, _, rfl, rfl, ?_⟩
        refine ⟨_, rfl, _, rfl, i, j, rfl, _, rfl, ?_⟩
        refine iteI (fun e1 => ⟨_, rfl, rfl, _, rfl, ?_⟩) (fun e1 => iteF ⟨rfl, ⟨_, _, rfl⟩, ?_⟩)
        · rw [int_eq, less_nat]
          refine iteI (fun e2 => ?_) (fun e2 => ⟨rfl, ⟨_, _, rfl⟩, ?_⟩)
          · refine ⟨_, rfl, _, rfl, _, rfl, (by show 3 ≤ sizeLine; decide), fun p hp => ?_⟩
            refine k _ p (Same.new hp) hp ?_
            have e3 : lossAt l i j = true := by
              unfold lossAt
              rw [e1]
              have e4 : ¬ (((lost l i j : Nat) : Int) = 0) := fun q => by
                have e5 : (!decide (((lost l i j : Nat) : Int) = 0)) = true := e2
                rw [decide_eq_true q] at e5
                cases e5
              rw [decide_eq_false (fun q => e4 (by rw [q]; rfl))]
              rfl
            have e : lossL l = [i, j, lost l i j] := by
              unfold lossL loss
              rw [fs_at (x := i) (r := (i, j)) hi (fun x hx => by rw [hn x hx]; rfl) (by rw [fd_at hj hm e3]; rfl)]
            rw [e]
            show upd H p (.lst [.int i, .int j, .int (Builtin.bitAnd (l.getD i 0 : Nat) (Builtin.bitNot (l.getD j 0 : Nat)))]) p = _
            rw [less_nat]
            exact upd_same
          · intro y hy
            rcases Nat.lt_succ_iff_lt_or_eq.mp hy with h | h
            · exact hm y h
            · rw [h]
              have e5 : (!decide (((lost l i j : Nat) : Int) = 0)) = false := e2
              unfold lossAt
              by_cases q : lost l i j = 0
              · rw [decide_eq_true q, Bool.not_true, Bool.and_false]
              · rw [decide_eq_false (fun z => q (by omega))] at e5
                cases e5
        · intro y hy
          rcases Nat.lt_succ_iff_lt_or_eq.mp hy with h | h
          · exact hm y h
          · rw [h]
            unfold lossAt
            rw [e1, Bool.false_and]
      · rintro σ H' ⟨rfl, ⟨v2, v3, rfl⟩, hm⟩
        refine ⟨rfl, ⟨_, _, _, rfl⟩, fun x hx => ?_⟩
        rcases Nat.lt_succ_iff_lt_or_eq.mp hx with h | h
        · exact hn x h
        · rw [h]
          exact fd_none hm
    · rintro σ H' ⟨rfl, ⟨v1, v2, v3, rfl⟩, hn⟩
      refine ⟨Nat.zero_le _, fun p hp => ?_⟩
      refine k _ p (Same.new hp) hp ?_
      have e : lossL l = [] := by
        unfold lossL loss
        rw [fs_none fun x hx => by rw [hn x hx]; rfl]
      rw [e]
      exact upd_same
end
end Ga

set_option Elab.async false
set_option linter.all false
set_option maxRecDepth 100000
set_option maxHeartbeats 2000000
namespace Ga
open PySem PySem.Spec PyProof.Rows L2
abbrev s_count_members : Stmt := top 12
abbrev s_parts_of : Stmt := top 13
abbrev n_parts_of : List Str := ["x", "y"]
abbrev s_still_open : Stmt := top 14
abbrev n_still_open : List Str := ["given", "x", "z", "y"]
abbrev s_given_of_any : Stmt := top 15
abbrev s_given_of_each : Stmt := top 16
abbrev s_table_alone : Stmt := top 21
abbrev n_table_alone : List Str := ["given", "o", "v"]
abbrev s_steps_of : Stmt := top 24
theorem iv_some {l : List Nat} {i : Nat} {y : V} (hi : (iv l)[i]? = some y) : ∃ v : Nat, l[i]? = some v ∧ y = V.int (v : Int) := by
  unfold iv at hi
  rw [List.getElem?_map] at hi
  cases e : l[i]? with
  | none =>
    rw [e] at hi
    cases hi
  | some z =>
    rw [e] at hi
    exact ⟨z, rfl, (Option.some.inj hi).symm⟩
theorem shl_one (o : Nat) : (1 : Int) * 2 ^ ((o : Int)).toNat = ((2 ^ o : Nat) : Int) := by
  rw [Int.one_mul, Int.toNat_natCast, Int.natCast_pow]
  rfl
/-- hands back a new list of numbers -/
def NewL (H : Hp) (l : List Nat) (Q : VK) : Prop := ∀ (H' : Hp) (p : Addr), Same H H' → H p = none → H' p = some (.lst (iv l)) → Q (.ref p) H'
def spCountM : Sp := fun vs H Q _ => ∃ x : Nat, vs = [.int (x : Int)] ∧ x < 16 ∧ Q (.int ((pop x : Nat) : Int)) H
def spParts : Sp := fun vs H Q _ => ∃ x : Nat, vs = [.int (x : Int)] ∧ x < 16 ∧ NewL H (partsL x) Q
def spOpen (K : PySem.W.Frag) : Sp := fun vs H Q _ => ∃ (a : Addr) (f : List Nat) (x z : Nat), vs = [.ref a, .int (x : Int), .int (z : Int)] ∧ SqL K H a (iv f) ∧ f.length ≤ 16 ∧ NewL H (openL f.length x z) Q
def spAny (K : PySem.W.Frag) : Sp := fun vs H Q _ => ∃ (a b : Addr) (f l : List Nat), vs = [.ref a, .ref b] ∧ SqL K H a (iv f) ∧ SqL K H b (iv l) ∧ (∀ y, y ∈ l → y < f.length) ∧ Q (.int ((anyL f l : Nat) : Int)) H
def spEach (K : PySem.W.Frag) : Sp := fun vs H Q _ => ∃ (a b : Addr) (f l : List Nat), vs = [.ref a, .ref b] ∧ SqL K H a (iv f) ∧ SqL K H b (iv l) ∧ (∀ y, y ∈ l → y < f.length) ∧ l ≠ [] ∧ Q (.int ((eachL f l : Nat) : Int)) H
def spAlone (K : PySem.W.Frag) : Sp := fun vs H Q _ => ∃ (a : Addr) (f : List Nat) (o : Nat), vs = [.ref a, .int (o : Int)] ∧ SqL K H a (iv f) ∧ f.length ≤ 16 ∧ o < 3 ∧ NewL H (aloneL f o) Q
def spSteps (K : PySem.W.Frag) : Sp := fun vs H Q _ => ∃ (a : Addr) (l : List Nat), vs = [.ref a] ∧ SqL K H a (iv l) ∧ l.length ≤ 4 ∧ (∀ i, i ∈ l → i < 4) ∧ NewL H (stepsL l) Q
section
variable {P : Program} {w : World} {K : PySem.W.Frag} {mg : Str → Option Value} {base : Heap} {C : Addr}
theorem sc_count_members : FnScope ["x", "count"] ["x"] (defScope s_count_members) := ⟨rfl, rfl, rfl, by decide +kernel, rfl, by decide +kernel, by decide +kernel⟩
def left0 (σ : L2.St) : Nat := match σ[0]? with
  | some (some (V.int i)) => i.toNat
  | _ => 0
theorem ok_count_members {f : Addr} (D : Dn K mg "count_members" s_count_members f ["x"]) : Fn P w K mg base 1 "count_members" f spCountM := by
  refine D.fn sc_count_members (fun vs H Q E h => ?_) (fun cdv A outer s H vs Q E hr h => ?_)
  · obtain ⟨x, rfl, _⟩ := h
    rfl
  · obtain ⟨x, rfl, hx, k⟩ := h
    refine ⟨_, (pss_cons (ps_set (i := 1) sc_count_members.nd rfl (Or.inl rfl) pe_int)
      (pss_cons (ps_while PassesOwn.never (pt_cmpR op_ne (pv 0) pe_int (nomark _))
        (pss_cons (ps_set (i := 1) sc_count_members.nd rfl (Or.inl rfl) (pe_op op_add (pv 1) (pe_op op_and (pv 0) pe_int)))
        (pss_one (ps_set (i := 0) sc_count_members.nd rfl (Or.inl rfl) (pe_op op_shr (pv 0) pe_int)))))
      (pss_one (ps_ret (pv 1))))), ?_⟩
    refine while_by (fun σ H' => H = H' ∧ ∃ y c : Nat, y < 16 ∧ σ = [some (.int (y : Int)), some (.int (c : Int))] ∧ c + pop y = pop x) (fun σ _ => left0 σ) ⟨rfl, x, 0, hx, rfl, Nat.zero_add _⟩ ?_ ?_
    · rintro σ H' ⟨rfl, y, c, hy, rfl, e⟩
      refine ⟨_, rfl, rfl, _, rfl, ?_⟩
      rw [int_eq]
      refine iteI (fun e1 => ?_) (fun e1 => ?_)
      · have hy0 : y ≠ 0 := fun q => by
          rw [q] at e1
          cases e1
        refine ⟨_, rfl, _, rfl, _, _, rfl, rfl, _, _, rfl, rfl, ?_⟩
        refine ⟨_, rfl, _, _, rfl, rfl, (show (0 : Int) ≤ 1 by decide), ?_⟩
        have e2 : (y : Int) / 2 ^ ((1 : Int)).toNat = ((y / 2 : Nat) : Int) := by
          rw [show (2 : Int) ^ ((1 : Int)).toNat = 2 from rfl]
          omega
        have e3 : (c : Int) + Builtin.bitAnd (y : Int) 1 = ((c + y % 2 : Nat) : Int) := by
          rw [show Builtin.bitAnd (y : Int) 1 = ((y &&& 1 : Nat) : Int) from and_nat y 1, Nat.and_one_is_mod]
          omega
        refine ⟨⟨rfl, y / 2, c + y % 2, by omega, ?_, ?_⟩, ?_⟩
        · rw [← e2, ← e3]
          rfl
        · have := pop_step y hy
          omega
        · show (((y : Int) / 2 ^ ((1 : Int)).toNat)).toNat < ((y : Int)).toNat
          rw [e2]
          omega
      · have hy0 : y = 0 := by
          rw [Bool.not_eq_false', decide_eq_true_eq] at e1
          omega
        rw [hy0, pop_zero, Nat.add_zero] at e
        rw [← e] at k
        exact ⟨_, rfl, k⟩
    · rintro σ H3 Q1 Q2 hQ ⟨v, e1, e2, kk, e3, q⟩
      exact ⟨v, e1, e2, kk, e3, hQ _ _ q⟩
theorem sc_parts_of : FnScope ["x", "y"] ["x"] (defScope s_parts_of) := ⟨rfl, rfl, rfl, by decide +kernel, rfl, by decide +kernel, by decide +kernel⟩
theorem ok_parts_of {f f1 : Addr} (D : Dn K mg "parts_of" s_parts_of f ["x"]) (T : Txt K mg C) (G_is_part : Fn P w K mg base 1 "is_part" f1 spIsPart) : Fn P w K mg base 2 "parts_of" f spParts := by
  refine D.fn sc_parts_of (fun vs H Q E h => ?_) (fun cdv A outer s H vs Q E hr h => ?_)
  · obtain ⟨x, rfl, _⟩ := h
    rfl
  · obtain ⟨x, rfl, hx, k⟩ := h
    refine ⟨_, (pss_one (ps_ret (pe_lc (own := [("y", 1)]) (g := gName 1) rfl sc_parts_of.nd (pi_range1 rfl T.b_range (pa_cons (pe_op op_add (pv 0) pe_int) pa_nil)) (blkOk_by (N := n_parts_of) (sc := defScope s_parts_of) (by decide +kernel)) (fun _ _ _ _ _ => pg_name (i := 1) sc_parts_of.nd rfl (Or.inl rfl)) (fun _ _ _ _ _ => pts_one (pt_val (pe_fn G_is_part hr (by decide) rfl (pa_cons (pv 1) (pa_cons (pv 0) pa_nil))))) (fun _ _ _ _ _ => (pv 1))))), ?_⟩
    have hlen : ((x : Int) + 1).toNat = x + 1 := by omega
    refine ⟨_, rfl, _, _, rfl, rfl, _, rfl, ?_, ?_, ?_⟩
    · omega
    · omega
    rw [hlen]
    intro p hp
    refine lc_range (n := x + 1) (fun i H' => Same H H' ∧ H' p = some (.lst (iv ((List.range i).filter fun y => decide (y &&& x = y))))) ⟨Same.new hp, upd_same⟩ ?_ ?_
    · rintro i H' hi ⟨s1, hq⟩
      rw [Int.zero_add]
      refine ⟨rfl, ?_⟩
      refine ⟨_, rfl, _, rfl, i, x, rfl, _, rfl, ?_⟩
      refine iteI (fun e2 => ?_) (fun e2 => ⟨s1, ?_⟩)
      · refine ⟨_, rfl, _, hq, ?_, fun c o e => ?_, ?_⟩
        · rw [iv_len]
          refine Nat.lt_of_le_of_lt (List.length_filter_le _ _) ?_
          rw [List.length_range]
          exact Nat.lt_of_lt_of_le hi (Nat.le_trans (by omega : x + 1 ≤ 16) (by decide))
        · rw [upd_ne (ne_of_none e hp)]
          exact s1 c o e
        · rw [upd_same, filter_range, if_pos e2, iv_app]
          rfl
      · rw [filter_range, if_neg (by rw [e2]; exact Bool.false_ne_true), List.append_nil]
        exact hq
    · rintro H' ⟨s1, hq⟩
      exact k _ p s1 hp hq
theorem sc_still_open : FnScope ["given", "x", "z", "y"] ["given", "x", "z"] (defScope s_still_open) := ⟨rfl, rfl, rfl, by decide +kernel, rfl, by decide +kernel, by decide +kernel⟩
theorem ok_still_open {f f1 : Addr} (D : Dn K mg "still_open" s_still_open f ["given", "x", "z"]) (T : Txt K mg C) (G_is_part : Fn P w K mg base 1 "is_part" f1 spIsPart) : Fn P w K mg base 2 "still_open" f (spOpen K) := by
  refine D.fn sc_still_open (fun vs H Q E h => ?_) (fun cdv A outer s H vs Q E hr h => ?_)
  · obtain ⟨a, l, x, z, rfl, _⟩ := h
    rfl
  · obtain ⟨a, l, x, z, rfl, ha, hl, k⟩ := h
    refine ⟨_, (pss_one (ps_ret (pe_lc (own := [("y", 3)]) (g := gName 3) rfl sc_still_open.nd (pi_range1 rfl T.b_range (pa_cons (pe_callB call_len_seq (by rfl) T.b_len PySem.boot_len (pa_cons (pv 0) pa_nil)) pa_nil)) (blkOk_by (N := n_still_open) (sc := defScope s_still_open) (by decide +kernel)) (fun _ _ _ _ _ => pg_name (i := 3) sc_still_open.nd rfl (Or.inl rfl)) (fun _ _ _ _ _ => pts_one (PW.pt (pw_and (pt_val (pe_fn G_is_part hr (by decide) rfl (pa_cons (pv 1) (pa_cons (pv 3) pa_nil)))) (pw_and1 (pt_cmpR op_eq (pe_op op_and (pv 3) (pv 2)) pe_int (nomark _)))))) (fun _ _ _ _ _ => (pv 3))))), ?_⟩
    have hlen : (((iv l).length : Nat) : Int).toNat = l.length := by rw [iv_len]; omega
    refine ⟨_, rfl, a, _, rfl, .inl ha, _, rfl, ?_, ?_, ?_⟩
    · omega
    · rw [iv_len]; omega
    rw [hlen]
    intro p hp
    refine lc_range (n := l.length) (fun i H' => Same H H' ∧ H' p = some (.lst (iv (openL i x z)))) ⟨Same.new hp, upd_same⟩ ?_ ?_
    · rintro i H' hi ⟨s1, hq⟩
      have e9 : openL (i + 1) x z = openL i x z ++ if (decide (x &&& i = x) && decide (i &&& z = 0)) = true then [i] else [] := filter_range _ i
      rw [Int.zero_add]
      refine ⟨rfl, ?_⟩
      refine ⟨_, rfl, _, rfl, x, i, rfl, _, rfl, ?_⟩
      refine iteI (fun e1 => ?_) (fun e1 => iteF ⟨s1, ?_⟩)
      · refine ⟨_, rfl, _, rfl, _, _, rfl, rfl, rfl, _, rfl, ?_⟩
        rw [int_eq, and_nat, show decide (((i &&& z : Nat) : Int) = 0) = decide (i &&& z = 0) from by rw [decide_eq_decide]; omega]
        refine iteI (fun e2 => ?_) (fun e2 => ⟨s1, ?_⟩)
        · refine ⟨_, rfl, _, hq, ?_, fun c o e => ?_, ?_⟩
          · rw [iv_len]
            refine Nat.lt_of_le_of_lt (List.length_filter_le _ _) ?_
            rw [List.length_range]
            exact Nat.lt_of_lt_of_le hi (Nat.le_trans hl (by decide))
          · rw [upd_ne (ne_of_none e hp)]
            exact s1 c o e
          · rw [upd_same, e9, e1, e2, iv_app]
            rfl
        · rw [e9, e2, Bool.and_false, if_neg Bool.false_ne_true, List.append_nil]
          exact hq
      · rw [e9, e1, Bool.false_and, if_neg Bool.false_ne_true, List.append_nil]
        exact hq
    · rintro H' ⟨s1, hq⟩
      exact k _ p s1 hp hq
theorem sc_given_of_any : FnScope ["given", "sets", "told", "x"] ["given", "sets"] (defScope s_given_of_any) := ⟨rfl, rfl, rfl, by decide +kernel, rfl, by decide +kernel, by decide +kernel⟩
theorem ok_given_of_any {f : Addr} (D : Dn K mg "given_of_any" s_given_of_any f ["given", "sets"]) : Fn P w K mg base 1 "given_of_any" f (spAny K) := by
  refine D.fn sc_given_of_any (fun vs H Q E h => ?_) (fun cdv A outer s H vs Q E hr h => ?_)
  · obtain ⟨a, b, l, m, rfl, _⟩ := h
    rfl
  · obtain ⟨a, b, l, m, rfl, ha, hb, hm, k⟩ := h
    refine ⟨_, (pss_cons (ps_set (i := 2) sc_given_of_any.nd rfl (Or.inl rfl) pe_int)
      (pss_cons (ps_for PassesOwn.never rfl (pi_list (pv 1)) (pg_name (i := 3) sc_given_of_any.nd rfl (Or.inl rfl))
        (pss_one (ps_set (i := 2) sc_given_of_any.nd rfl (Or.inl rfl) (pe_op op_or (pv 2) (pe_ix ix_list (pv 0) (pv 3) (fun _ _ => rfl))))))
      (pss_one (ps_ret (pv 2))))), ?_⟩
    refine ⟨_, rfl, b, rfl, ⟨_, hb⟩, ?_⟩
    refine for_list (K := K) (a := b) (xs := iv m) (fun i σ H' => H = H' ∧ ∃ v3, σ = [some (.ref a), some (.ref b), some (.int (((m.take i).foldl (fun t y => t ||| l.getD y 0) 0 : Nat) : Int)), v3]) ⟨rfl, _, rfl⟩ (fun i σ H' _ q => q.1 ▸ hb) ?_ ?_
    · rintro i y σ H' hi ⟨rfl, v3, rfl⟩
      obtain ⟨v, hv, rfl⟩ := iv_some hi
      refine ⟨_, rfl, _, rfl, _, rfl, a, _, _, _, rfl, rfl, ha, iv_at rfl (hm v (List.mem_of_getElem? hv)), _, _, rfl, rfl, rfl, some (.int (v : Int)), ?_⟩
      have e9 : (m.take (i + 1)).foldl (fun t y => t ||| l.getD y 0) 0 = (m.take i).foldl (fun t y => t ||| l.getD y 0) 0 ||| l.getD v 0 := by
        rw [take_snoc hv, List.foldl_append]
        rfl
      rw [e9, ← or_nat]
      rfl
    · rintro σ H' ⟨rfl, v3, rfl⟩
      rw [iv_len, List.take_length]
      exact ⟨_, rfl, k⟩
theorem sc_given_of_each : FnScope ["given", "sets", "kept", "x"] ["given", "sets"] (defScope s_given_of_each) := ⟨rfl, rfl, rfl, by decide +kernel, rfl, by decide +kernel, by decide +kernel⟩
theorem ok_given_of_each {f : Addr} (D : Dn K mg "given_of_each" s_given_of_each f ["given", "sets"]) : Fn P w K mg base 1 "given_of_each" f (spEach K) := by
  refine D.fn sc_given_of_each (fun vs H Q E h => ?_) (fun cdv A outer s H vs Q E hr h => ?_)
  · obtain ⟨a, b, l, m, rfl, _⟩ := h
    rfl
  · obtain ⟨a, b, l, m, rfl, ha, hb, hm, hne, k⟩ := h
    refine ⟨_, (pss_cons (ps_set (i := 2) sc_given_of_each.nd rfl (Or.inl rfl) (pe_ix ix_list (pv 0) (pe_ix ix_list (pv 1) pe_int (fun _ _ => rfl)) (fun _ _ => rfl)))
      (pss_cons (ps_for PassesOwn.never rfl (pi_list (pv 1)) (pg_name (i := 3) sc_given_of_each.nd rfl (Or.inl rfl))
        (pss_one (ps_set (i := 2) sc_given_of_each.nd rfl (Or.inl rfl) (pe_op op_and (pv 2) (pe_ix ix_list (pv 0) (pv 3) (fun _ _ => rfl))))))
      (pss_one (ps_ret (pv 2))))), ?_⟩
    have h0 : 0 < m.length := List.length_pos_iff.mpr hne
    refine ⟨_, rfl, _, rfl, b, _, _, _, rfl, rfl, hb, iv_at (i := 0) rfl h0, a, _, _, _, rfl, rfl, ha, iv_at rfl (hm _ (head_in hne)), ?_⟩
    refine ⟨_, rfl, b, rfl, ⟨_, hb⟩, ?_⟩
    refine for_list (K := K) (a := b) (xs := iv m) (fun i σ H' => H = H' ∧ ∃ v3, σ = [some (.ref a), some (.ref b), some (.int (((m.take i).foldl (fun t y => t &&& l.getD y 0) (l.getD (m.getD 0 0) 0) : Nat) : Int)), v3]) ⟨rfl, _, rfl⟩ (fun i σ H' _ q => q.1 ▸ hb) ?_ ?_
    · rintro i y σ H' hi ⟨rfl, v3, rfl⟩
      obtain ⟨v, hv, rfl⟩ := iv_some hi
      refine ⟨_, rfl, _, rfl, _, rfl, a, _, _, _, rfl, rfl, ha, iv_at rfl (hm v (List.mem_of_getElem? hv)), _, _, rfl, rfl, rfl, some (.int (v : Int)), ?_⟩
      have e9 : (m.take (i + 1)).foldl (fun t y => t &&& l.getD y 0) (l.getD (m.getD 0 0) 0) = (m.take i).foldl (fun t y => t &&& l.getD y 0) (l.getD (m.getD 0 0) 0) &&& l.getD v 0 := by
        rw [take_snoc hv, List.foldl_append]
        rfl
      rw [e9, ← and_nat]
      rfl
    · rintro σ H' ⟨rfl, v3, rfl⟩
      rw [iv_len, List.take_length]
      exact ⟨_, rfl, k⟩
theorem sc_table_alone : FnScope ["given", "o", "v"] ["given", "o"] (defScope s_table_alone) := ⟨rfl, rfl, rfl, by decide +kernel, rfl, by decide +kernel, by decide +kernel⟩
theorem ok_table_alone {f : Addr} (D : Dn K mg "table_alone" s_table_alone f ["given", "o"]) : Fn P w K mg base 1 "table_alone" f (spAlone K) := by
  refine D.fn sc_table_alone (fun vs H Q E h => ?_) (fun cdv A outer s H vs Q E hr h => ?_)
  · obtain ⟨a, l, o, rfl, _⟩ := h
    rfl
  · obtain ⟨a, l, o, rfl, ha, hl, ho, k⟩ := h
    refine ⟨_, (pss_one (ps_ret (pe_lc (own := [("v", 2)]) (g := gName 2) rfl sc_table_alone.nd (pi_list (pv 0)) (blkOk_by (N := n_table_alone) (sc := defScope s_table_alone) (by decide +kernel)) (fun _ _ _ _ _ => pg_name (i := 2) sc_table_alone.nd rfl (Or.inl rfl)) (fun _ _ _ _ _ => pts_nil) (fun _ _ _ _ _ => (pe_op op_and (pv 2) (pe_op op_shl pe_int (pv 1))))))), ?_⟩
    refine ⟨_, rfl, a, rfl, ⟨_, ha⟩, fun p hp => ?_⟩
    refine lc_list (K := K) (a := a) (xs := iv l) (fun i H' => Same H H' ∧ H' p = some (.lst (iv (aloneL (l.take i) o)))) ⟨Same.new hp, upd_same⟩ (fun i H' _ ⟨s2, _⟩ => s2.seq ha) ?_ ?_
    · rintro i y H' hi ⟨s2, hq⟩
      obtain ⟨v, hv1, rfl⟩ := iv_some hi
      refine ⟨rfl, ?_⟩
      refine ⟨_, rfl, _, rfl, _, _, rfl, rfl, ⟨by omega, by omega, by decide⟩, _, _, rfl, rfl, _, hq, ?_, fun c q e => ?_, ?_⟩
      · rw [iv_len, aloneL, List.length_map]
        refine Nat.lt_of_le_of_lt (List.length_take_le _ _) ?_
        have := (List.getElem?_eq_some_iff.mp hv1).1
        exact Nat.lt_of_lt_of_le this (Nat.le_trans hl (by decide))
      · rw [upd_ne (ne_of_none e hp)]
        exact s2 c q e
      · rw [upd_same, take_snoc hv1, show aloneL (l.take i ++ [v]) o = aloneL (l.take i) o ++ [v &&& 2 ^ o] from List.map_append, iv_app]
        show some (HO.lst (_ ++ [V.int (Builtin.bitAnd (v : Int) (1 * 2 ^ ((o : Int)).toNat))])) = _
        rw [shl_one, and_nat]
        rfl
    · rintro H' ⟨s2, hq⟩
      rw [iv_len, List.take_length] at hq
      exact k _ p s2 hp hq
theorem sc_steps_of : FnScope ["order", "steps", "k"] ["order"] (defScope s_steps_of) := ⟨rfl, rfl, rfl, by decide +kernel, rfl, by decide +kernel, by decide +kernel⟩
theorem ok_steps_of {f : Addr} (D : Dn K mg "steps_of" s_steps_of f ["order"]) : Fn P w K mg base 1 "steps_of" f (spSteps K) := by
  refine D.fn sc_steps_of (fun vs H Q E h => ?_) (fun cdv A outer s H vs Q E hr h => ?_)
  · obtain ⟨a, l, rfl, _⟩ := h
    rfl
  · obtain ⟨a, l, rfl, ha, hl, hv, k⟩ := h
    refine ⟨_, (pss_cons (ps_set (i := 1) sc_steps_of.nd rfl (Or.inl rfl) (pe_lst (pa_cons pe_int pa_nil)))
      (pss_cons (ps_for PassesOwn.never rfl (pi_list (pv 0)) (pg_name (i := 2) sc_steps_of.nd rfl (Or.inl rfl))
        (pss_one (ps_expr (pe_bm PySem.F.plainAttrs_list PySem.F.slot_list_append PySem.F.type_list_append mt_append (pv 1) (pa_cons (pe_op op_or (pe_ix ix_list (pv 1) (pe_un un_neg pe_int) (fun _ _ => rfl)) (pe_op op_shl pe_int (pv 2))) pa_nil)))))
      (pss_one (ps_ret (pv 1))))), ?_⟩
    refine ⟨by show 1 ≤ sizeLine; decide, fun p hp => ?_⟩
    have s0 : Same H (upd H p (.lst [.int 0])) := Same.new hp
    refine ⟨_, rfl, a, rfl, ⟨_, s0.seq ha⟩, ?_⟩
    refine for_list (K := K) (a := a) (xs := iv l) (fun i σ H' => Same H H' ∧ (∃ v2, σ = [some (.ref a), some (.ref p), v2]) ∧ H' p = some (.lst (iv ((List.range (i + 1)).map (orAt l))))) ⟨s0, ⟨_, rfl⟩, upd_same⟩ (fun i σ H' _ q => q.1.seq ha) ?_ ?_
    · rintro i y σ H' hi ⟨s1, ⟨v2, rfl⟩, hq⟩
      obtain ⟨v, hv1, rfl⟩ := iv_some hi
      have hv4 : v < 4 := hv v (List.mem_of_getElem? hv1)
      have hlast : atI (iv ((List.range (i + 1)).map (orAt l))) (-1) = some (.int ((orAt l i : Nat) : Int)) := by
        rw [map_range, iv_app]
        exact atI_last _ _
      refine ⟨_, rfl, .inl ⟨rfl, _, SqL.of hq⟩, _, rfl, _, rfl, p, _, _, _, rfl, rfl, SqL.of hq, hlast, _, rfl, _, _, rfl, rfl, ⟨by omega, by omega, by decide⟩, _, _, rfl, rfl, p, _, _, rfl, rfl, hq, ?_, ?_⟩
      · rw [iv_len, List.length_map, List.length_range]
        have := (List.getElem?_eq_some_iff.mp hv1).1
        exact Nat.lt_of_le_of_lt (by omega : i + 1 ≤ 5) (by decide)
      · refine ⟨fun b o e => ?_, ⟨some (.int (v : Int)), rfl⟩, ?_⟩
        · rw [upd_ne (ne_of_none e hp)]
          exact s1 b o e
        · rw [upd_same, map_range _ (i + 1), iv_app]
          show some (HO.lst (_ ++ [V.int (Builtin.bitOr ((orAt l i : Nat) : Int) (1 * 2 ^ ((v : Int)).toNat))])) = _
          rw [shl_one, or_nat]
          have e9 : orAt l (i + 1) = orAt l i ||| 2 ^ v := by
            unfold orAt
            rw [take_snoc hv1, List.foldl_append]
            rfl
          rw [e9]
          rfl
    · rintro σ H' ⟨s1, ⟨v2, rfl⟩, hq⟩
      rw [iv_len] at hq
      exact ⟨_, rfl, k _ p s1 hp hq⟩
end
end Ga

set_option Elab.async false
set_option maxRecDepth 100000
set_option maxHeartbeats 2000000
namespace Ga
open PySem PySem.Spec PyProof.Rows L2
abbrev s_first_surplus : Stmt := top 18
abbrev s_table_above : Stmt := top 19
abbrev s_table_below : Stmt := top 20
abbrev n_table_above : List Str := ["given", "x"]
abbrev n_table_below : List Str := ["given", "x"]
section
variable {P : Program} {w : World} {K : PySem.W.Frag} {mg : Str → Option Value} {base : Heap} {C : Addr}
theorem sc_first_surplus : FnScope ["given", "x", "y"] ["given"] (defScope s_first_surplus) := ⟨rfl, rfl, rfl, by decide +kernel, rfl, by decide +kernel, by decide +kernel⟩
theorem ok_first_surplus {f : Addr} (D : Dn K mg "first_surplus" s_first_surplus f ["given"]) (T : Txt K mg C) : Fn P w K mg base 1 "first_surplus" f (spNew K surplusL) := by
  refine D.fn sc_first_surplus (fun vs H Q E h => ?_) (fun cdv A outer s H vs Q E hr h => ?_)
  · obtain ⟨a, l, rfl, _⟩ := h
    rfl
  · obtain ⟨a, l, rfl, hS, hp2, k⟩ := h
    have hl := len16 hp2
    refine ⟨_, (pss_cons (ps_for PassesOwn.never rfl (pi_range1 rfl T.b_range (pa_cons (pe_callB call_len_seq (by rfl) T.b_len PySem.boot_len (pa_cons (pv 0) pa_nil)) pa_nil)) (pg_name (i := 1) sc_first_surplus.nd rfl (Or.inl rfl))
        (pss_one (ps_for PassesOwn.never rfl (pi_range1 rfl T.b_range (pa_cons (pe_callB call_len_seq (by rfl) T.b_len PySem.boot_len (pa_cons (pv 0) pa_nil)) pa_nil)) (pg_name (i := 2) sc_first_surplus.nd rfl (Or.inl rfl))
          (pss_one (ps_if (pt_cmpR op_ne (pe_ix ix_list (pv 0) (pe_op op_or (pv 1) (pv 2)) (fun _ _ => rfl)) (pe_op op_or (pe_ix ix_list (pv 0) (pv 1) (fun _ _ => rfl)) (pe_ix ix_list (pv 0) (pv 2) (fun _ _ => rfl))) (nomark _))
            (pss_one (ps_ret (pe_lst (pa_cons (pv 1) (pa_cons (pv 2) pa_nil)))))
            pss_nil)))))
      (pss_one (ps_ret (pe_lst pa_nil)))), ?_⟩
    have hlen : (((iv l).length : Nat) : Int).toNat = l.length := by rw [iv_len]; omega
    refine ⟨_, rfl, a, _, rfl, .inl hS, _, rfl, ?_, ?_, ?_⟩
    · omega
    · rw [iv_len]; omega
    rw [hlen]
    refine for_range (n := l.length) (fun i σ H' => H = H' ∧ (∃ v1 v2, σ = [some (.ref a), v1, v2]) ∧ ∀ x, x < i → (List.range l.length).find? (surplusAt l x) = none) ⟨rfl, ⟨_, _, rfl⟩, fun x hx => absurd hx (Nat.not_lt_zero _)⟩ ?_ ?_
    · rintro i σ H' hi ⟨rfl, ⟨v1, v2, rfl⟩, hn⟩
      rw [Int.zero_add]
      refine ⟨_, rfl, a, _, rfl, .inl hS, _, rfl, ?_, ?_, ?_⟩
      · omega
      · rw [iv_len]; omega
      rw [hlen]
      refine for_range (n := l.length) (fun j σ H' => H = H' ∧ (∃ v2, σ = [some (.ref a), some (.int (i : Int)), v2]) ∧ ∀ y, y < j → surplusAt l i y = false) ⟨rfl, ⟨_, rfl⟩, fun x hx => absurd hx (Nat.not_lt_zero _)⟩ ?_ ?_
      · rintro j σ H' hj ⟨rfl, ⟨v2, rfl⟩, hm⟩
        rw [Int.zero_add]
        have hij : i ||| j < l.length := by
          obtain ⟨n, _, e⟩ := hp2
          rw [e] at hi hj ⊢
          exact or_lt hi hj
        refine ⟨_, rfl, _, rfl, _, rfl, _, _, rfl, rfl, a, _, _, _, rfl, rfl, hS, iv_at (or_nat i j) hij, _, rfl, _, rfl, a, _, _, _, rfl, rfl, hS, iv_at rfl hi, _, rfl, _, rfl, a, _, _, _, rfl, rfl, hS, iv_at rfl hj, _, _, rfl, rfl, rfl, _, rfl, ?_⟩
        rw [int_eq, or_nat]
        have e0 : (!decide (((l.getD (i ||| j) 0 : Nat) : Int) = ((l.getD i 0 ||| l.getD j 0 : Nat) : Int))) = surplusAt l i j := by
          unfold surplusAt
          refine congrArg not ?_
          rw [decide_eq_decide]
          omega
        rw [e0]
        refine iteI (fun e2 => ?_) (fun e2 => ⟨rfl, ⟨_, rfl⟩, ?_⟩)
        · refine ⟨_, rfl, _, rfl, (by show 2 ≤ sizeLine; decide), fun p hp => ?_⟩
          refine k _ p (Same.new hp) hp ?_
          have e : surplusL l = [i, j] := by
            unfold surplusL surplus
            rw [fs_at (x := i) (r := (i, j)) hi (fun x hx => by rw [hn x hx]; rfl) (by rw [fd_at hj hm e2]; rfl)]
          rw [e]
          exact upd_same
        · intro y hy
          rcases Nat.lt_succ_iff_lt_or_eq.mp hy with h | h
          · exact hm y h
          · rw [h]
            exact e2
      · rintro σ H' ⟨rfl, ⟨v2, rfl⟩, hm⟩
        refine ⟨rfl, ⟨_, _, rfl⟩, fun x hx => ?_⟩
        rcases Nat.lt_succ_iff_lt_or_eq.mp hx with h | h
        · exact hn x h
        · rw [h]
          exact fd_none hm
    · rintro σ H' ⟨rfl, ⟨v1, v2, rfl⟩, hn⟩
      refine ⟨Nat.zero_le _, fun p hp => ?_⟩
      refine k _ p (Same.new hp) hp ?_
      have e : surplusL l = [] := by
        unfold surplusL surplus
        rw [fs_none fun x hx => by rw [hn x hx]; rfl]
      rw [e]
      exact upd_same
theorem sc_table_above : FnScope ["given", "x"] ["given"] (defScope s_table_above) := ⟨rfl, rfl, rfl, by decide +kernel, rfl, by decide +kernel, by decide +kernel⟩
theorem ok_table_above {f f1 f2 : Addr} (D : Dn K mg "table_above" s_table_above f ["given"]) (T : Txt K mg C) (G_given_of_any : Fn P w K mg base 1 "given_of_any" f1 (spAny K)) (G_parts_of : Fn P w K mg base 2 "parts_of" f2 spParts) : Fn P w K mg base 3 "table_above" f (spNew K aboveL) := by
  refine D.fn sc_table_above (fun vs H Q E h => ?_) (fun cdv A outer s H vs Q E hr h => ?_)
  · obtain ⟨a, l, rfl, _⟩ := h
    rfl
  · obtain ⟨a, l, rfl, hS, hp2, k⟩ := h
    have hl := len16 hp2
    refine ⟨_, (pss_one (ps_ret (pe_lc (own := [("x", 1)]) (g := gName 1) rfl sc_table_above.nd (pi_range1 rfl T.b_range (pa_cons (pe_callB call_len_seq (by rfl) T.b_len PySem.boot_len (pa_cons (pv 0) pa_nil)) pa_nil)) (blkOk_by (N := n_table_above) (sc := defScope s_table_above) (by decide +kernel)) (fun _ _ _ _ _ => pg_name (i := 1) sc_table_above.nd rfl (Or.inl rfl)) (fun _ _ _ _ _ => pts_nil) (fun _ _ _ _ _ => (pe_fn G_given_of_any hr (by decide) rfl (pa_cons (pv 0) (pa_cons (pe_fn G_parts_of hr (by decide) rfl (pa_cons (pv 1) pa_nil)) pa_nil))))))), ?_⟩
    have hlen : (((iv l).length : Nat) : Int).toNat = l.length := by rw [iv_len]; omega
    refine ⟨_, rfl, a, _, rfl, .inl hS, _, rfl, ?_, ?_, ?_⟩
    · omega
    · rw [iv_len]; omega
    rw [hlen]
    intro p hp
    refine lc_range (n := l.length) (fun i H' => Same H H' ∧ H' p = some (.lst (iv ((List.range i).map (aboveAt l))))) ⟨Same.new hp, upd_same⟩ ?_ ?_
    · rintro i H' hi ⟨s1, hq⟩
      rw [Int.zero_add]
      refine ⟨rfl, ?_⟩
      refine ⟨_, rfl, _, rfl, i, rfl, by omega, fun H2 q s2 hq2 h2 => ?_⟩
      refine ⟨a, q, l, partsL i, rfl, s2.seq (s1.seq hS), SqL.of h2, fun y hy => Nat.lt_of_le_of_lt (parts_le hy) hi, _, s2 _ _ hq, ?_, fun c o e => ?_, ?_⟩
      · rw [iv_len, List.length_map, List.length_range]
        exact Nat.lt_of_lt_of_le hi (Nat.le_trans hl (by decide))
      · rw [upd_ne (ne_of_none e hp)]
        exact s2 _ _ (s1 c o e)
      · rw [upd_same, map_range, iv_app]
        rfl
    · rintro H' ⟨s1, hq⟩
      exact k _ p s1 hp hq
theorem sc_table_below : FnScope ["given", "x"] ["given"] (defScope s_table_below) := ⟨rfl, rfl, rfl, by decide +kernel, rfl, by decide +kernel, by decide +kernel⟩
theorem ok_table_below {f f1 f2 : Addr} (D : Dn K mg "table_below" s_table_below f ["given"]) (T : Txt K mg C) (G_given_of_each : Fn P w K mg base 1 "given_of_each" f1 (spEach K)) (G_still_open : Fn P w K mg base 2 "still_open" f2 (spOpen K)) : Fn P w K mg base 3 "table_below" f (spNew K belowL) := by
  refine D.fn sc_table_below (fun vs H Q E h => ?_) (fun cdv A outer s H vs Q E hr h => ?_)
  · obtain ⟨a, l, rfl, _⟩ := h
    rfl
  · obtain ⟨a, l, rfl, hS, hp2, k⟩ := h
    have hl := len16 hp2
    refine ⟨_, (pss_one (ps_ret (pe_lc (own := [("x", 1)]) (g := gName 1) rfl sc_table_below.nd (pi_range1 rfl T.b_range (pa_cons (pe_callB call_len_seq (by rfl) T.b_len PySem.boot_len (pa_cons (pv 0) pa_nil)) pa_nil)) (blkOk_by (N := n_table_below) (sc := defScope s_table_below) (by decide +kernel)) (fun _ _ _ _ _ => pg_name (i := 1) sc_table_below.nd rfl (Or.inl rfl)) (fun _ _ _ _ _ => pts_nil) (fun _ _ _ _ _ => (pe_fn G_given_of_each hr (by decide) rfl (pa_cons (pv 0) (pa_cons (pe_fn G_still_open hr (by decide) rfl (pa_cons (pv 0) (pa_cons (pv 1) (pa_cons pe_int pa_nil)))) pa_nil))))))), ?_⟩
    have hlen : (((iv l).length : Nat) : Int).toNat = l.length := by rw [iv_len]; omega
    refine ⟨_, rfl, a, _, rfl, .inl hS, _, rfl, ?_, ?_, ?_⟩
    · omega
    · rw [iv_len]; omega
    rw [hlen]
    intro p hp
    refine lc_range (n := l.length) (fun i H' => Same H H' ∧ H' p = some (.lst (iv ((List.range i).map (belowAt l))))) ⟨Same.new hp, upd_same⟩ ?_ ?_
    · rintro i H' hi ⟨s1, hq⟩
      rw [Int.zero_add]
      refine ⟨rfl, ?_⟩
      refine ⟨_, rfl, _, rfl, _, rfl, a, l, i, 0, rfl, s1.seq hS, hl, fun H2 q s2 hq2 h2 => ?_⟩
      refine ⟨a, q, l, openL l.length i 0, rfl, s2.seq (s1.seq hS), SqL.of h2, fun y hy => open_lt hy, open_ne hi (Nat.and_zero i), _, s2 _ _ hq, ?_, fun c o e => ?_, ?_⟩
      · rw [iv_len, List.length_map, List.length_range]
        exact Nat.lt_of_lt_of_le hi (Nat.le_trans hl (by decide))
      · rw [upd_ne (ne_of_none e hp)]
        exact s2 _ _ (s1 c o e)
      · rw [upd_same, map_range, iv_app]
        rfl
    · rintro H' ⟨s1, hq⟩
      exact k _ p s1 hp hq
end
end Ga

set_option Elab.async false
set_option linter.all false
set_option maxRecDepth 100000
set_option maxHeartbeats 2000000
namespace Ga
open PySem PySem.Spec PyProof.Rows L2
/-! ### the object -/
def bkF (g : Addr) (k : Nat) : List (Str × V) := [("given", .ref g), ("answer_count", .int (k : Int))]
theorem lk_here {k : Str} {v : V} {r : List (Str × V)} : List.lookup k ((k, v) :: r) = some v := by
  have e : (k == k) = true := beq_self_eq_true k
  simp only [List.lookup, e]
theorem lk_past {k g : Str} {v : V} {r : List (Str × V)} (h : (k == g) = false) : List.lookup k ((g, v) :: r) = List.lookup k r := by
  simp only [List.lookup, h]
theorem put_here {f : Str} {v x : V} {r : List (Str × V)} : putF f v ((f, x) :: r) = (f, v) :: r := if_pos rfl
theorem put_past {f g : Str} {v x : V} {r : List (Str × V)} (h : ¬ g = f) : putF f v ((g, x) :: r) = (g, x) :: putF f v r := if_neg h
theorem bk_given (g : Addr) (k : Nat) : (bkF g k).lookup ("given" : Str) = some (.ref g) := lk_here
theorem bk_count (g : Addr) (k : Nat) : (bkF g k).lookup ("answer_count" : Str) = some (.int (k : Int)) := (lk_past (by decide +kernel)).trans lk_here
theorem bk_no (g : Addr) (k : Nat) {m : Str} (h1 : (m == ("given" : Str)) = false) (h2 : (m == ("answer_count" : Str)) = false) : (bkF g k).lookup m = none := (lk_past h1).trans ((lk_past h2).trans rfl)
theorem bk_put_given (g g' : Addr) (k : Nat) : putF "given" (.ref g') (bkF g k) = bkF g' k := put_here
theorem bk_put_count (g : Addr) (k k' : Nat) : putF "answer_count" (.int (k' : Int)) (bkF g k) = bkF g k' := (put_past (by decide +kernel)).trans (congrArg _ put_here)
theorem bk_new (g : Addr) : putF "answer_count" (.int 0) (putF "given" (.ref g) []) = bkF g 0 := (put_past (by decide +kernel)).trans rfl
structure BookAt (C : Addr) (H : Hp) (b g : Addr) (s : Option Kh412.Abs) : Prop where
  obj : ∃ dx, H b = some (.ins C dx (bkF g (cnt s)))
  lst : H g = some (.lst (iv (giv s)))
  ok : OkS s
theorem BookAt.ne {C : Addr} {H : Hp} {b g : Addr} {s : Option Kh412.Abs} (B : BookAt C H b g s) : b ≠ g := by
  obtain ⟨dx, h⟩ := B.obj
  exact ne_of h B.lst (by intro z; cases z)
theorem BookAt.mono {C : Addr} {H H' : Hp} {b g : Addr} {s : Option Kh412.Abs} (B : BookAt C H b g s) (h : Same H H') : BookAt C H' b g s := by
  obtain ⟨dx, e⟩ := B.obj
  exact ⟨⟨dx, h _ _ e⟩, h _ _ B.lst, B.ok⟩
/-! ### promises of its methods -/
def spInit (C : Addr) : Sp := fun vs H Q _ => ∃ (p dx : Addr), vs = [.ref p] ∧ H p = some (.ins C dx []) ∧
  ∀ (H' : Hp) (g : Addr), BookAt C H' p g none → H g = none → (∀ b o, H b = some o → b ≠ p → H' b = some o) → Q .non H'
def spHasBegun (C : Addr) : Sp := fun vs H Q _ => ∃ (b g : Addr) (s : Option Kh412.Abs), vs = [.ref b] ∧ BookAt C H b g s ∧ ∀ H' : Hp, Same H H' → Q (.bl s.isSome) H'
def spCountInputs (C : Addr) : Sp := fun vs H Q _ => ∃ (b g : Addr) (a : Kh412.Abs), vs = [.ref b] ∧ BookAt C H b g (some a) ∧ Q (.int (a.n : Int)) H
def spHasInput (C : Addr) : Sp := fun vs H Q _ => ∃ (b g : Addr) (a : Kh412.Abs) (x : Nat), vs = [.ref b, .int (x : Int)] ∧ BookAt C H b g (some a) ∧ Q (.bl (decide (x < a.n))) H
def spHasInputs (C : Addr) : Sp := fun vs H Q _ => ∃ (b g : Addr) (s : Option Kh412.Abs) (x : Nat), vs = [.ref b, .int (x : Int)] ∧ BookAt C H b g s ∧ Q (.bl (decide (x < (giv s).length))) H
def spCountSets (C : Addr) : Sp := fun vs H Q _ => ∃ (b g : Addr) (s : Option Kh412.Abs), vs = [.ref b] ∧ BookAt C H b g s ∧ Q (.int ((2 ^ cnt s : Nat) : Int)) H
def spHasAnswers (C : Addr) : Sp := fun vs H Q _ => ∃ (b g : Addr) (s : Option Kh412.Abs) (x : Nat), vs = [.ref b, .int (x : Int)] ∧ BookAt C H b g s ∧ Q (.bl (decide (x < 2 ^ cnt s))) H
def spHasAnswer (C : Addr) : Sp := fun vs H Q _ => ∃ (b g : Addr) (s : Option Kh412.Abs) (x : Nat), vs = [.ref b, .int (x : Int)] ∧ BookAt C H b g s ∧ Q (.bl (decide (x < cnt s))) H
abbrev s___init__ : Stmt := inClass (top 10) 0
abbrev s_has_begun : Stmt := inClass (top 10) 1
abbrev s_count_inputs : Stmt := inClass (top 10) 2
abbrev s_has_input : Stmt := inClass (top 10) 3
abbrev s_has_inputs : Stmt := inClass (top 10) 4
abbrev s_count_answer_sets : Stmt := inClass (top 10) 5
abbrev s_has_answers : Stmt := inClass (top 10) 6
abbrev s_has_answer : Stmt := inClass (top 10) 7
section
variable {P : Program} {w : World} {K : PySem.W.Frag} {mg : Str → Option Value} {base : Heap} {C : Addr}
theorem sc___init__ : FnScope ["self"] ["self"] (defScope s___init__) := ⟨rfl, rfl, rfl, by decide +kernel, rfl, by decide +kernel, by decide +kernel⟩
theorem ok___init__ {f : Addr} (D : Dk K mg "Book" C "Book.__init__" s___init__ f ["self"]) (T : Txt K mg C) : Mak P w K mg base 1 "Book" C (spInit C) := by
  refine D.mak sc___init__ (fun vs H Q E h => ?_) (fun cdv A outer s H vs Q E hr h => ?_)
  · obtain ⟨p, dx, rfl, _⟩ := h
    rfl
  · obtain ⟨p, dx, rfl, hp, k⟩ := h
    refine ⟨_, (pss_cons (ps_fld (pv 0) (pe_lst pa_nil) rfl)
      (pss_one (ps_fld (pv 0) pe_int rfl))), ?_⟩
    refine ⟨Nat.zero_le _, fun g hg => ?_⟩
    have npg : p ≠ g := ne_of_none hp hg
    refine ⟨_, rfl, p, C, dx, [], rfl, by rw [upd_ne npg]; exact hp, T.cl, T.n_given, (by show 0 < 1000; decide), ?_⟩
    refine ⟨_, rfl, p, C, dx, _, rfl, upd_same, T.cl, T.n_answer_count, (by show 1 < 1000; decide), ?_⟩
    refine k _ g ⟨⟨dx, Eq.trans upd_same (congrArg (fun q => some (HO.ins C dx q)) (bk_new g))⟩, ?_, fun a h => by cases h⟩ hg fun b o e hb => ?_
    · rw [upd_ne npg.symm, upd_ne npg.symm]
      exact upd_same
    · rw [upd_ne hb, upd_ne hb, upd_ne (ne_of_none e hg)]
      exact e
theorem sc_has_begun : FnScope ["self"] ["self"] (defScope s_has_begun) := ⟨rfl, rfl, rfl, by decide +kernel, rfl, by decide +kernel, by decide +kernel⟩
def dv (l : List Nat) : List PyData := l.map fun v : Nat => PyData.int (v : Int)
theorem iv_dp {K : PySem.W.Frag} {H : Hp} : ∀ l : List Nat, DpAll K H (iv l) (dv l)
  | [] => .nil
  | v :: l => .cons (.int _) (iv_dp l)
theorem dv_can : ∀ l : List Nat, PyData.canLayAll0 (dv l) = true
  | [] => by simp [dv, PyData.canLayAll0]
  | v :: l => by
    have ih := dv_can l
    show PyData.canLayAll0 (PyData.int (v : Int) :: dv l) = true
    rw [PyData.canLayAll0, ih, PyData.canLay0]
    rfl
theorem dv_depth : ∀ l : List Nat, PyData.depthAll (dv l) = 0
  | [] => by simp [dv, PyData.depthAll]
  | v :: l => by
    have ih := dv_depth l
    show PyData.depthAll (PyData.int (v : Int) :: dv l) = 0
    rw [PyData.depthAll, ih, PyData.depth]
    rfl
theorem dv_sh (l : List Nat) : SeqAt.shaped (.list (dv l)) = true := by
  unfold SeqAt.shaped
  rw [PyData.canLay0, dv_can, PyData.depth, dv_depth]
  rfl
theorem dv_nil (l : List Nat) : PyData.eqv (.list (dv l)) (.list []) = l.isEmpty := by
  rw [PyData.eqv]
  cases l with
  | nil => rfl
  | cons v l => exact SeqAt.eqvAll_other_length (by simp [dv])
theorem eqD_nil {l : List Nat} : PyData.eqv (.list (dv l)) (.list []) = decide (l = []) := by
  rw [dv_nil]
  cases l <;> rfl
theorem ok_has_begun {f : Addr} (D : Dm K C "has_begun" "Book.has_begun" s_has_begun f ["self"]) (T : Txt K mg C) : Met P w K mg base 1 C "has_begun" (spHasBegun C) := by
  refine D.met T.cl sc_has_begun (fun vs H Q E h => ?_) (fun cdv A outer s H vs Q E hr h => ?_)
  · obtain ⟨b, g, s, rfl, _⟩ := h
    rfl
  · obtain ⟨b, g, z, rfl, B, k⟩ := h
    obtain ⟨dx, hb⟩ := B.obj
    refine ⟨_, (pss_one (ps_ret (pe_cmpR (op_neD hr.units) (pe_fld (pv 0) rfl) (pe_lst pa_nil) (nomark _)))), ?_⟩
    refine ⟨_, rfl, b, C, dx, _, _, rfl, hb, T.cl, T.n_given, bk_given _ _, Nat.zero_le _, fun p hp => ?_⟩
    refine ⟨_, _, .lst (SqL.of ((Same.new hp) _ _ B.lst)) (iv_dp _), .lst (SqL.of upd_same) .nil, dv_sh _, dv_sh [], ?_⟩
    have e : (!PyData.eqv (.list (dv (giv z))) (.list [])) = z.isSome := by
      rw [dv_nil]
      cases z with
      | none => rfl
      | some a =>
        have h := (B.ok a rfl).len
        show (!a.f.isEmpty) = true
        cases e : a.f with
        | nil =>
          rw [e] at h
          have h2 : 0 < 2 ^ a.n := Nat.pow_pos (by decide)
          rw [← h] at h2
          exact absurd h2 (Nat.lt_irrefl _)
        | cons v l => rfl
    rw [e]
    exact k _ (Same.new hp)
theorem sc_count_inputs : FnScope ["self"] ["self"] (defScope s_count_inputs) := ⟨rfl, rfl, rfl, by decide +kernel, rfl, by decide +kernel, by decide +kernel⟩
theorem bits_all : ∀ n, n < 5 → (Builtin.Int.intBits ((2 ^ n : Nat) : Int) : Nat) = n + 1 := by decide +kernel
theorem ok_count_inputs {f : Addr} (D : Dm K C "count_inputs" "Book.count_inputs" s_count_inputs f ["self"]) (T : Txt K mg C) : Met P w K mg base 1 C "count_inputs" (spCountInputs C) := by
  refine D.met T.cl sc_count_inputs (fun vs H Q E h => ?_) (fun cdv A outer s H vs Q E hr h => ?_)
  · obtain ⟨b, g, a, rfl, _⟩ := h
    rfl
  · obtain ⟨b, g, a, rfl, B, k⟩ := h
    obtain ⟨dx, hb⟩ := B.obj
    have ga := B.ok a rfl
    refine ⟨_, (pss_one (ps_ret (pe_op op_sub (pe_bits (pe_callB call_len_seq (by rfl) T.b_len PySem.boot_len (pa_cons (pe_fld (pv 0) rfl) pa_nil))) pe_int))), ?_⟩
    refine ⟨_, rfl, b, C, dx, _, _, rfl, hb, T.cl, T.n_given, bk_given _ _, g, _, rfl, .inl (SqL.of B.lst), _, rfl, _, _, rfl, rfl, ?_⟩
    rw [iv_len, show (giv (some a)).length = 2 ^ a.n from ga.len, bits_all a.n (n5 ga)]
    show Q (.int (((a.n + 1 : Nat) : Int) - 1)) H
    rw [show (((a.n + 1 : Nat) : Int) - 1) = (a.n : Int) by omega]
    exact k
theorem sc_has_input : FnScope ["self", "k"] ["self", "k"] (defScope s_has_input) := ⟨rfl, rfl, rfl, by decide +kernel, rfl, by decide +kernel, by decide +kernel⟩
theorem ok_has_input {f : Addr} (D : Dm K C "has_input" "Book.has_input" s_has_input f ["self", "k"]) (T : Txt K mg C) (M_count_inputs : Met P w K mg base 1 C "count_inputs" (spCountInputs C)) : Met P w K mg base 2 C "has_input" (spHasInput C) := by
  refine D.met T.cl sc_has_input (fun vs H Q E h => ?_) (fun cdv A outer s H vs Q E hr h => ?_)
  · obtain ⟨b, g, a, x, rfl, _⟩ := h
    rfl
  · obtain ⟨b, g, a, x, rfl, B, k⟩ := h
    obtain ⟨dx, hb⟩ := B.obj
    refine ⟨_, (pss_one (ps_ret (pe_cmpR op_lt (pv 1) (pe_met0 M_count_inputs hr (by decide) (pv 0)) (nomark _)))), ?_⟩
    refine ⟨_, rfl, _, rfl, b, dx, _, rfl, hb, bk_no _ _ (by decide +kernel) (by decide +kernel), b, g, a, rfl, B, _, _, rfl, rfl, ?_⟩
    show Q (.bl (decide ((x : Int) < (a.n : Int)))) H
    rw [show decide ((x : Int) < (a.n : Int)) = decide (x < a.n) from by rw [decide_eq_decide]; omega]
    exact k
theorem sc_has_inputs : FnScope ["self", "x"] ["self", "x"] (defScope s_has_inputs) := ⟨rfl, rfl, rfl, by decide +kernel, rfl, by decide +kernel, by decide +kernel⟩
theorem ok_has_inputs {f : Addr} (D : Dm K C "has_inputs" "Book.has_inputs" s_has_inputs f ["self", "x"]) (T : Txt K mg C) : Met P w K mg base 1 C "has_inputs" (spHasInputs C) := by
  refine D.met T.cl sc_has_inputs (fun vs H Q E h => ?_) (fun cdv A outer s H vs Q E hr h => ?_)
  · obtain ⟨b, g, s, x, rfl, _⟩ := h
    rfl
  · obtain ⟨b, g, z, x, rfl, B, k⟩ := h
    obtain ⟨dx, hb⟩ := B.obj
    refine ⟨_, (pss_one (ps_ret (pe_cmpR op_lt (pv 1) (pe_callB call_len_seq (by rfl) T.b_len PySem.boot_len (pa_cons (pe_fld (pv 0) rfl) pa_nil)) (nomark _)))), ?_⟩
    refine ⟨_, rfl, _, rfl, b, C, dx, _, _, rfl, hb, T.cl, T.n_given, bk_given _ _, g, _, rfl, .inl (SqL.of B.lst), _, _, rfl, rfl, ?_⟩
    rw [iv_len]
    show Q (.bl (decide ((x : Int) < ((giv z).length : Int)))) H
    rw [show decide ((x : Int) < ((giv z).length : Int)) = decide (x < (giv z).length) from by rw [decide_eq_decide]; omega]
    exact k
theorem sc_count_answer_sets : FnScope ["self"] ["self"] (defScope s_count_answer_sets) := ⟨rfl, rfl, rfl, by decide +kernel, rfl, by decide +kernel, by decide +kernel⟩
theorem ok_count_answer_sets {f : Addr} (D : Dm K C "count_answer_sets" "Book.count_answer_sets" s_count_answer_sets f ["self"]) (T : Txt K mg C) : Met P w K mg base 1 C "count_answer_sets" (spCountSets C) := by
  refine D.met T.cl sc_count_answer_sets (fun vs H Q E h => ?_) (fun cdv A outer s H vs Q E hr h => ?_)
  · obtain ⟨b, g, s, rfl, _⟩ := h
    rfl
  · obtain ⟨b, g, z, rfl, B, k⟩ := h
    obtain ⟨dx, hb⟩ := B.obj
    have hc := cnt_le B.ok
    refine ⟨_, (pss_one (ps_ret (pe_op op_shl pe_int (pe_fld (pv 0) rfl)))), ?_⟩
    refine ⟨_, rfl, b, C, dx, _, _, rfl, hb, T.cl, T.n_answer_count, bk_count _ _, _, _, rfl, rfl, ⟨by omega, by omega, by decide⟩, ?_⟩
    have e : (1 : Int) * 2 ^ ((cnt z : Int)).toNat = ((2 ^ cnt z : Nat) : Int) := by
      rw [Int.one_mul, Int.toNat_natCast, Int.natCast_pow]
      rfl
    show Q (.int (1 * 2 ^ ((cnt z : Int)).toNat)) H
    rw [e]
    exact k
theorem sc_has_answers : FnScope ["self", "v"] ["self", "v"] (defScope s_has_answers) := ⟨rfl, rfl, rfl, by decide +kernel, rfl, by decide +kernel, by decide +kernel⟩
theorem ok_has_answers {f : Addr} (D : Dm K C "has_answers" "Book.has_answers" s_has_answers f ["self", "v"]) (T : Txt K mg C) (M_count_answer_sets : Met P w K mg base 1 C "count_answer_sets" (spCountSets C)) : Met P w K mg base 2 C "has_answers" (spHasAnswers C) := by
  refine D.met T.cl sc_has_answers (fun vs H Q E h => ?_) (fun cdv A outer s H vs Q E hr h => ?_)
  · obtain ⟨b, g, s, x, rfl, _⟩ := h
    rfl
  · obtain ⟨b, g, z, x, rfl, B, k⟩ := h
    obtain ⟨dx, hb⟩ := B.obj
    refine ⟨_, (pss_one (ps_ret (pe_cmpR op_lt (pv 1) (pe_met0 M_count_answer_sets hr (by decide) (pv 0)) (nomark _)))), ?_⟩
    refine ⟨_, rfl, _, rfl, b, dx, _, rfl, hb, bk_no _ _ (by decide +kernel) (by decide +kernel), b, g, z, rfl, B, _, _, rfl, rfl, ?_⟩
    show Q (.bl (decide ((x : Int) < ((2 ^ cnt z : Nat) : Int)))) H
    rw [show decide ((x : Int) < ((2 ^ cnt z : Nat) : Int)) = decide (x < 2 ^ cnt z) from by rw [decide_eq_decide, Int.ofNat_lt]]
    exact k
theorem sc_has_answer : FnScope ["self", "o"] ["self", "o"] (defScope s_has_answer) := ⟨rfl, rfl, rfl, by decide +kernel, rfl, by decide +kernel, by decide +kernel⟩
theorem ok_has_answer {f : Addr} (D : Dm K C "has_answer" "Book.has_answer" s_has_answer f ["self", "o"]) (T : Txt K mg C) : Met P w K mg base 1 C "has_answer" (spHasAnswer C) := by
  refine D.met T.cl sc_has_answer (fun vs H Q E h => ?_) (fun cdv A outer s H vs Q E hr h => ?_)
  · obtain ⟨b, g, s, x, rfl, _⟩ := h
    rfl
  · obtain ⟨b, g, z, x, rfl, B, k⟩ := h
    obtain ⟨dx, hb⟩ := B.obj
    refine ⟨_, (pss_one (ps_ret (pe_cmpR op_lt (pv 1) (pe_fld (pv 0) rfl) (nomark _)))), ?_⟩
    refine ⟨_, rfl, _, rfl, b, C, dx, _, _, rfl, hb, T.cl, T.n_answer_count, bk_count _ _, _, _, rfl, rfl, ?_⟩
    show Q (.bl (decide ((x : Int) < (cnt z : Int)))) H
    rw [show decide ((x : Int) < (cnt z : Int)) = decide (x < cnt z) from by rw [decide_eq_decide]; omega]
    exact k
end
end Ga

set_option Elab.async false
set_option linter.all false
set_option maxRecDepth 100000
set_option maxHeartbeats 2000000
namespace Ga
open PySem PySem.Spec PyProof.Rows L2
abbrev s_least_sets : Stmt := top 22
abbrev n_least_sets : List Str := ["given", "o", "alone", "found", "x", "lesser", "y"]
abbrev s_fewest_sealed : Stmt := top 23
def spLeast (K : PySem.W.Frag) : Sp := fun vs H Q _ => ∃ (a : Addr) (f : List Nat) (o : Nat), vs = [.ref a, .int (o : Int)] ∧ SqL K H a (iv f) ∧ f.length ≤ 16 ∧ o < 3 ∧ NewL H (leastL f o) Q
def spFewest (K : PySem.W.Frag) : Sp := fun vs H Q _ => ∃ (a : Addr) (f : List Nat) (x o : Nat), vs = [.ref a, .int (x : Int), .int (o : Int)] ∧ SqL K H a (iv f) ∧ f.length ≤ 16 ∧ o < 3 ∧ x < f.length ∧ NewL H (fewestL f x o) Q
theorem mem_lesser {x y : Nat} (h : y ∈ lesserL x) : y ≤ x := by
  unfold lesserL at h
  rw [List.mem_filter] at h
  exact parts_le h.1
section
variable {P : Program} {w : World} {K : PySem.W.Frag} {mg : Str → Option Value} {base : Heap} {C : Addr}
theorem sc_least_sets : FnScope ["given", "o", "alone", "found", "x", "lesser", "y"] ["given", "o"] (defScope s_least_sets) := ⟨rfl, rfl, rfl, by decide +kernel, rfl, by decide +kernel, by decide +kernel⟩
theorem ok_least_sets {f f1 f2 f3 : Addr} (D : Dn K mg "least_sets" s_least_sets f ["given", "o"]) (T : Txt K mg C) (G_table_alone : Fn P w K mg base 1 "table_alone" f1 (spAlone K)) (G_parts_of : Fn P w K mg base 2 "parts_of" f2 spParts) (G_given_of_any : Fn P w K mg base 1 "given_of_any" f3 (spAny K)) : Fn P w K mg base 3 "least_sets" f (spLeast K) := by
  refine D.fn sc_least_sets (fun vs H Q E h => ?_) (fun cdv A outer s H vs Q E hr h => ?_)
  · obtain ⟨a, l, o, rfl, _⟩ := h
    rfl
  · obtain ⟨a, l, o, rfl, hS, hl, ho, k⟩ := h
    refine ⟨_, (pss_cons (ps_set (i := 2) sc_least_sets.nd rfl (Or.inl rfl) (pe_fn G_table_alone hr (by decide) rfl (pa_cons (pv 0) (pa_cons (pv 1) pa_nil))))
      (pss_cons (ps_set (i := 3) sc_least_sets.nd rfl (Or.inl rfl) (pe_lst pa_nil))
      (pss_cons (ps_for PassesOwn.never rfl (pi_range1 rfl T.b_range (pa_cons (pe_callB call_len_seq (by rfl) T.b_len PySem.boot_len (pa_cons (pv 2) pa_nil)) pa_nil)) (pg_name (i := 4) sc_least_sets.nd rfl (Or.inr rfl))
        (pss_cons (ps_setLc (i := 5) (own := [("y", 6)]) (g := gName 6) rfl sc_least_sets.nd rfl rfl (sw_true rfl rfl rfl (by decide +kernel)) (pi_list (pe_fn G_parts_of hr (by decide) rfl (pa_cons (pv 4) pa_nil))) (blkOk_by (N := n_least_sets) (sc := defScope s_least_sets) (by decide +kernel)) (fun _ _ _ _ _ => pg_name (i := 6) sc_least_sets.nd rfl (Or.inl rfl)) (fun _ _ _ _ _ => pts_one (pt_cmpR op_ne (pv 6) (pv 4) (nomark _))) (fun _ _ _ _ _ => (pv 6)))
        (pss_one (ps_if (PW.pt (pw_and (pt_cmpR op_ne (pe_ix ix_list (pv 2) (pv 4) (fun _ _ => rfl)) pe_int (nomark _)) (pw_and1 (pt_cmpR op_eq (pe_fn G_given_of_any hr (by decide) rfl (pa_cons (pv 2) (pa_cons (pv 5) pa_nil))) pe_int (nomark _)))))
          (pss_one (ps_expr (pe_bm PySem.F.plainAttrs_list PySem.F.slot_list_append PySem.F.type_list_append mt_append (pv 3) (pa_cons (pv 4) pa_nil))))
          pss_nil))))
      (pss_one (ps_ret (pv 3)))))), ?_⟩
    refine ⟨_, rfl, _, rfl, a, l, o, rfl, hS, hl, ho, fun H1 p s1 hp hq => ?_⟩
    refine ⟨Nat.zero_le _, fun r hr1 => ?_⟩
    have s2 : Same H1 (upd H1 r (.lst [])) := Same.new hr1
    have hlen : (((iv (aloneL l o)).length : Nat) : Int).toNat = l.length := by rw [iv_len, alone_len]; omega
    refine ⟨_, rfl, p, _, rfl, .inl (SqL.of (s2 _ _ hq)), _, rfl, ?_, ?_, ?_⟩
    · omega
    · rw [iv_len, alone_len]; omega
    rw [hlen]
    refine for_range (n := l.length) (fun i σ H' => Same H1 H' ∧ (∃ v4 v5 v6, σ = [some (.ref a), some (.int (o : Int)), some (.ref p), some (.ref r), v4, v5, v6]) ∧ H' r = some (.lst (iv ((List.range i).filter (leastAt l o))))) ⟨s2, ⟨_, _, _, rfl⟩, upd_same⟩ ?_ ?_
    · rintro i σ H' hi ⟨s3, ⟨v4, v5, v6, rfl⟩, hr2⟩
      rw [Int.zero_add]
      refine ⟨_, rfl, i, rfl, by omega, fun H2 q s4 hq2 h2 => ⟨q, rfl, ⟨_, SqL.of h2⟩, fun t ht => ?_⟩⟩
      refine lc_list (K := K) (a := q) (xs := iv (partsL i)) (fun j H3 => Same H2 H3 ∧ H3 t = some (.lst (iv (((partsL i).take j).filter fun y => !decide (y = i))))) ⟨Same.new ht, upd_same⟩ (fun j H3 _ g => g.1.seq (SqL.of h2)) ?_ ?_
      · rintro j y H3 hj ⟨s5, hq3⟩
        obtain ⟨v, hv1, rfl⟩ := iv_some hj
        refine ⟨rfl, ?_⟩
        refine ⟨_, rfl, _, rfl, rfl, _, rfl, ?_⟩
        rw [int_eq, show decide ((v : Int) = (i : Int)) = decide (v = i) from by rw [decide_eq_decide]; omega]
        have e9 : ((partsL i).take (j + 1)).filter (fun y => !decide (y = i)) = ((partsL i).take j).filter (fun y => !decide (y = i)) ++ if (!decide (v = i)) = true then [v] else [] := by
          rw [take_snoc hv1, List.filter_append]
          cases q9 : (!decide (v = i)) <;> simp [q9]
        refine iteI (fun e1 => ?_) (fun e1 => ⟨s5, ?_⟩)
        · refine ⟨_, rfl, _, hq3, ?_, fun c u e => ?_, ?_⟩
          · rw [iv_len]
            refine Nat.lt_of_le_of_lt (Nat.le_trans (List.length_filter_le _ _) (List.length_take_le _ _)) ?_
            have h9 := (List.getElem?_eq_some_iff.mp hv1).1
            have h8 : (partsL i).length ≤ i + 1 := by
              unfold partsL
              refine Nat.le_trans (List.length_filter_le _ _) ?_
              rw [List.length_range]
              exact Nat.le_refl _
            exact Nat.lt_of_lt_of_le (by omega : j < 17) (by decide)
          · rw [upd_ne (ne_of_none e ht)]
            exact s5 c u e
          · rw [upd_same, e9, if_pos e1, iv_app]
            rfl
        · rw [e9, if_neg (by rw [e1]; exact Bool.false_ne_true), List.append_nil]
          exact hq3
      · rintro H3 ⟨s5, hq3⟩
        rw [iv_len, List.take_length] at hq3
        have s6 : Same H1 H3 := (s3.trans s4).trans s5
        have hr3 := s5 _ _ (s4 _ _ hr2)
        have e8 : (List.range (i + 1)).filter (leastAt l o) = (List.range i).filter (leastAt l o) ++ if leastAt l o i then [i] else [] := filter_range _ i
        refine ⟨_, rfl, _, rfl, p, _, _, _, rfl, rfl, SqL.of (s6 _ _ hq), iv_at rfl (by rw [alone_len]; exact hi), rfl, _, rfl, ?_⟩
        rw [int_eq, show decide ((((aloneL l o).getD i 0 : Nat) : Int) = 0) = decide ((aloneL l o).getD i 0 = 0) from by rw [decide_eq_decide]; omega]
        refine iteI (fun e1 => ?_) (fun e1 => iteF ⟨s6, ⟨_, _, _, rfl⟩, ?_⟩)
        · refine ⟨_, rfl, _, rfl, p, t, aloneL l o, lesserL i, rfl, SqL.of (s6 _ _ hq), SqL.of hq3, fun y hy => by rw [alone_len]; exact Nat.lt_of_le_of_lt (mem_lesser hy) hi, rfl, _, rfl, ?_⟩
          rw [int_eq, show decide (((anyL (aloneL l o) (lesserL i) : Nat) : Int) = 0) = decide (anyL (aloneL l o) (lesserL i) = 0) from by rw [decide_eq_decide]; omega]
          refine iteI (fun e2 => ?_) (fun e2 => ⟨s6, ⟨_, _, _, rfl⟩, ?_⟩)
          · refine ⟨_, rfl, .inl ⟨rfl, _, SqL.of hr3⟩, _, rfl, r, _, _, rfl, rfl, hr3, ?_, ?_⟩
            · rw [iv_len]
              refine Nat.lt_of_le_of_lt (List.length_filter_le _ _) ?_
              rw [List.length_range]
              exact Nat.lt_of_lt_of_le hi (Nat.le_trans hl (by decide))
            · refine ⟨fun c u e => ?_, ⟨_, _, _, rfl⟩, ?_⟩
              · rw [upd_ne (ne_of_none e hr1)]
                exact s6 c u e
              · rw [upd_same, e8, show leastAt l o i = true by unfold leastAt; rw [e1, e2]; rfl, iv_app]
                rfl
          · rw [e8, show leastAt l o i = false by unfold leastAt; rw [e2, Bool.and_false], if_neg Bool.false_ne_true, List.append_nil]
            exact hr3
        · rw [e8, show leastAt l o i = false by unfold leastAt; rw [e1, Bool.false_and], if_neg Bool.false_ne_true, List.append_nil]
          exact hr3
    · rintro σ H' ⟨s3, ⟨v4, v5, v6, rfl⟩, hr2⟩
      exact ⟨_, rfl, k _ r (s1.trans s3) (s1.free hr1) hr2⟩
theorem sc_fewest_sealed : FnScope ["given", "x", "o", "alone", "fewest", "z", "enough"] ["given", "x", "o"] (defScope s_fewest_sealed) := ⟨rfl, rfl, rfl, by decide +kernel, rfl, by decide +kernel, by decide +kernel⟩
theorem ok_fewest_sealed {f f1 f2 f3 f4 : Addr} (D : Dn K mg "fewest_sealed" s_fewest_sealed f ["given", "x", "o"]) (T : Txt K mg C) (G_table_alone : Fn P w K mg base 1 "table_alone" f1 (spAlone K)) (G_still_open : Fn P w K mg base 2 "still_open" f2 (spOpen K)) (G_given_of_each : Fn P w K mg base 1 "given_of_each" f3 (spEach K))
    (G_count_members : Fn P w K mg base 1 "count_members" f4 spCountM) : Fn P w K mg base 3 "fewest_sealed" f (spFewest K) := by
  refine D.fn sc_fewest_sealed (fun vs H Q E h => ?_) (fun cdv A outer s H vs Q E hr h => ?_)
  · obtain ⟨a, l, x, o, rfl, _⟩ := h
    rfl
  · obtain ⟨a, l, x, o, rfl, hS, hl, ho, hx, k⟩ := h
    refine ⟨_, (pss_cons (ps_set (i := 3) sc_fewest_sealed.nd rfl (Or.inl rfl) (pe_fn G_table_alone hr (by decide) rfl (pa_cons (pv 0) (pa_cons (pv 2) pa_nil))))
      (pss_cons (ps_set (i := 4) sc_fewest_sealed.nd rfl (Or.inl rfl) (pe_lst pa_nil))
      (pss_cons (ps_for PassesOwn.never rfl (pi_range1 rfl T.b_range (pa_cons (pe_callB call_len_seq (by rfl) T.b_len PySem.boot_len (pa_cons (pv 3) pa_nil)) pa_nil)) (pg_name (i := 5) sc_fewest_sealed.nd rfl (Or.inl rfl))
        (pss_cons (ps_set (i := 6) sc_fewest_sealed.nd rfl (Or.inl rfl) (pe_and (pe_cmpR op_eq (pe_op op_and (pv 1) (pv 5)) pe_int (nomark _)) (pe_one (pe_cmpR op_ne (pe_fn G_given_of_each hr (by decide) rfl (pa_cons (pv 3) (pa_cons (pe_fn G_still_open hr (by decide) rfl (pa_cons (pv 3) (pa_cons (pv 1) (pa_cons (pv 5) pa_nil)))) pa_nil))) pe_int (nomark _)))))
        (pss_one (ps_if (PW.pt (pw_and (pt_val (pv 6)) (pw_and1 (PW.pt (pw_or (pt_cmpR (op_eqD hr.units) (pv 4) (pe_lst pa_nil) (nomark _)) (pw_or1 (pt_cmpR op_lt (pe_fn G_count_members hr (by decide) rfl (pa_cons (pv 5) pa_nil)) (pe_ix ix_list (pv 4) pe_int (fun _ _ => rfl)) (nomark _))))))))
          (pss_one (ps_set (i := 4) sc_fewest_sealed.nd rfl (Or.inl rfl) (pe_lst (pa_cons (pe_fn G_count_members hr (by decide) rfl (pa_cons (pv 5) pa_nil)) (pa_cons (pv 5) pa_nil)))))
          pss_nil))))
      (pss_one (ps_ret (pv 4)))))), ?_⟩
    refine ⟨_, rfl, _, rfl, a, l, o, rfl, hS, hl, ho, fun H1 p s1 hp hq => ?_⟩
    refine ⟨Nat.zero_le _, fun r hr1 => ?_⟩
    have s2 : Same H1 (upd H1 r (.lst [])) := Same.new hr1
    have hlen : (((iv (aloneL l o)).length : Nat) : Int).toNat = l.length := by rw [iv_len, alone_len]; omega
    refine ⟨_, rfl, p, _, rfl, .inl (SqL.of (s2 _ _ hq)), _, rfl, ?_, ?_, ?_⟩
    · omega
    · rw [iv_len, alone_len]; omega
    rw [hlen]
    refine for_range (n := l.length) (fun i σ H' => Same H1 H' ∧ ∃ t, (∃ v5 v6, σ = [some (.ref a), some (.int (x : Int)), some (.int (o : Int)), some (.ref p), some (.ref t), v5, v6]) ∧ H1 t = none ∧ H' t = some (.lst (iv ((List.range i).foldl (fewStep l x o) [])))) ⟨s2, r, ⟨_, _, rfl⟩, hr1, upd_same⟩ ?_ ?_
    · rintro i σ H' hi ⟨s3, t, ⟨v5, v6, rfl⟩, ht1, ht⟩
      rw [Int.zero_add]
      have e8 : (List.range (i + 1)).foldl (fewStep l x o) [] = fewStep l x o ((List.range i).foldl (fewStep l x o) []) i := fold_range _ _ _
      refine ⟨_, rfl, _, rfl, _, _, rfl, rfl, rfl, _, rfl, ?_⟩
      rw [int_eq, and_nat, show decide (((x &&& i : Nat) : Int) = 0) = decide (x &&& i = 0) from by rw [decide_eq_decide]; omega]
      refine iteI (fun e1 => ?_) (fun e1 => ⟨_, rfl, _, rfl, iteF (iteF ⟨s3, t, ⟨_, _, rfl⟩, ht1, ?_⟩)⟩)
      · have ex : x &&& i = 0 := of_decide_eq_true e1
        refine ⟨_, rfl, _, rfl, _, rfl, _, rfl, p, aloneL l o, x, i, rfl, SqL.of (s3 _ _ hq), by rw [alone_len]; exact hl, fun H2 q s4 hq2 h2 => ?_⟩
        have s5 : Same H1 H2 := s3.trans s4
        rw [alone_len] at h2
        refine ⟨p, q, aloneL l o, openL l.length x i, rfl, SqL.of (s5 _ _ hq), SqL.of h2, fun y hy => by rw [alone_len]; exact open_lt hy, open_ne hx ex, rfl, ?_⟩
        have e2 : (!decide (V.int ((eachL (aloneL l o) (openL l.length x i) : Nat) : Int) = V.int 0)) = enoughAt l x o i := by
          unfold enoughAt
          rw [int_eq, e1, Bool.true_and, show decide (((eachL (aloneL l o) (openL l.length x i) : Nat) : Int) = 0) = decide (eachL (aloneL l o) (openL l.length x i) = 0) from by rw [decide_eq_decide]; omega]
        rw [e2]
        refine ⟨_, rfl, _, rfl, ?_⟩
        have ht2 := s4 _ _ ht
        refine iteI (fun e3 => ?_) (fun e3 => iteF ⟨s5, t, ⟨_, _, rfl⟩, ht1, ?_⟩)
        · generalize hR : (List.range i).foldl (fewStep l x o) [] = R at e8 ht ht2
          refine ⟨_, rfl, Nat.zero_le _, fun u hu => ?_⟩
          have s6 : Same H2 (upd H2 u (.lst [])) := Same.new hu
          refine ⟨_, _, .lst (SqL.of (s6 _ _ ht2)) (iv_dp _), .lst (SqL.of upd_same) .nil, dv_sh _, dv_sh [], _, rfl, ?_⟩
          rw [eqD_nil]
          have fin : ∀ (H3 : Hp) (u2 : Addr), Same H1 H3 → H3 u2 = none → (decide (R = []) || decide (pop i < R.getD 0 0)) = true → Same H1 (upd H3 u2 (.lst (iv [pop i, i]))) ∧ H1 u2 = none ∧ upd H3 u2 (.lst (iv [pop i, i])) u2 = some (.lst (iv ((List.range (i + 1)).foldl (fewStep l x o) []))) := fun H3 u2 s7 hu2 e4 => by
            refine ⟨s7.trans (Same.new hu2), s7.free hu2, ?_⟩
            rw [upd_same, e8]
            unfold fewStep
            rw [e3, e4]
            rfl
          refine iteI (fun e4 => iteT ?_) (fun e4 => ?_)
          · refine ⟨_, rfl, i, rfl, by omega, _, rfl, by show 2 ≤ sizeLine; decide, fun u2 hu2 => ?_⟩
            obtain ⟨g1, g2, g3⟩ := fin _ u2 (s5.trans s6) hu2 (by rw [e4]; rfl)
            exact ⟨g1, u2, ⟨_, _, rfl⟩, g2, g3⟩
          · have hne : R ≠ [] := of_decide_eq_false e4
            refine ⟨_, rfl, i, rfl, by omega, _, rfl, t, _, _, _, rfl, rfl, SqL.of (s6 _ _ ht2), iv_at (i := 0) rfl (List.length_pos_iff.mpr hne), _, _, rfl, rfl, _, rfl, ?_⟩
            rw [show decide (((pop i : Nat) : Int) < ((R.getD 0 0 : Nat) : Int)) = decide (pop i < R.getD 0 0) from by rw [decide_eq_decide]; omega]
            refine iteI (fun e5 => ?_) (fun e5 => ⟨s5.trans s6, t, ⟨_, _, rfl⟩, ht1, ?_⟩)
            · refine ⟨_, rfl, i, rfl, by omega, _, rfl, by show 2 ≤ sizeLine; decide, fun u2 hu2 => ?_⟩
              obtain ⟨g1, g2, g3⟩ := fin _ u2 (s5.trans s6) hu2 (by rw [e5, Bool.or_true])
              exact ⟨g1, u2, ⟨_, _, rfl⟩, g2, g3⟩
            · rw [e8]
              unfold fewStep
              rw [e3, e4, e5, if_neg (by decide)]
              exact s6 _ _ ht2
        · rw [e8]
          unfold fewStep
          rw [e3, Bool.false_and, if_neg Bool.false_ne_true]
          exact ht2
      · rw [e8]
        unfold fewStep
        rw [show enoughAt l x o i = false by unfold enoughAt; rw [e1, Bool.false_and], Bool.false_and, if_neg Bool.false_ne_true]
        exact ht
    · rintro σ H' ⟨s3, t, ⟨v5, v6, rfl⟩, ht1, ht⟩
      exact ⟨_, rfl, k _ t (s1.trans s3) (s1.free ht1) ht⟩
end
end Ga

set_option Elab.async false
set_option linter.all false
set_option maxRecDepth 100000
set_option maxHeartbeats 2000000
namespace Ga
open PySem PySem.Spec PyProof.Rows L2
abbrev s_count_changes : Stmt := top 25
abbrev n_count_changes : List Str := ["old", "new", "x"]
abbrev s_yes_or_no : Stmt := top 26
abbrev s_shown_or_refused : Stmt := top 27
abbrev s_is_row_of_answers : Stmt := top 28
abbrev n_is_row_of_answers : List Str := ["book", "row", "length", "v"]
abbrev s_is_order : Stmt := top 29
abbrev n_is_order : List Str := ["book", "row", "k"]
abbrev s_is_known_and_sealed : Stmt := top 30
def spIsOrder (K : PySem.W.Frag) (C : Addr) : Sp := fun vs H Q _ => ∃ (b g r : Addr) (a : Kh412.Abs) (ns : List Nat), vs = [.ref b, .ref r] ∧ BookAt C H b g (some a) ∧ SqL K H r (iv ns) ∧ ns.length ≤ 16 ∧ ∀ H' : Hp, Same H H' → Q (.bl (Kh412.okOrder a ns)) H'
def spKnown (C : Addr) : Sp := fun vs H Q _ => ∃ (b g : Addr) (a : Kh412.Abs) (x z : Nat), vs = [.ref b, .int (x : Int), .int (z : Int)] ∧ BookAt C H b g (some a) ∧ Q (.bl (decide (x < 2 ^ a.n) && (decide (z < 2 ^ a.n) && decide (x &&& z = 0)))) H
def spCountChanges (K : PySem.W.Frag) : Sp := fun vs H Q _ => ∃ (a b : Addr) (f g : List Nat), vs = [.ref a, .ref b] ∧ SqL K H a (iv f) ∧ SqL K H b (iv g) ∧ f.length ≤ 16 ∧ g.length = f.length ∧
  ∀ H', Same H H' → Q (.int ((((List.range f.length).filter (differs f g)).length : Nat) : Int)) H'
def spYesNo : Sp := fun vs H Q _ => ∃ c : Bool, vs = [.bl c] ∧ ∀ (H' : Hp) (p : Addr), Same H H' → H p = none → H' p = some (.lst (iv [if c then 1 else 0])) → Q (.ref p) H'
def spShown (K : PySem.W.Frag) : Sp := fun vs H Q _ => ∃ (a : Addr) (f : List Nat), vs = [.ref a] ∧ H a = some (.lst (iv f)) ∧
  (f ≠ [] → ∀ H' : Hp, Same H H' → Q (.ref a) H') ∧ (f = [] → ∀ (H' : Hp) (p : Addr), Same H H' → H p = none → H' p = some (.lst [.int (-33)]) → Q (.ref p) H')
def spIsRow (K : PySem.W.Frag) (C : Addr) : Sp := fun vs H Q _ => ∃ (b g r : Addr) (s : Option Kh412.Abs) (ns : List Nat) (n : Nat), vs = [.ref b, .ref r, .int (n : Int)] ∧ BookAt C H b g s ∧ SqL K H r (iv ns) ∧ ns.length ≤ 16 ∧
  ∀ H' : Hp, Same H H' → Q (.bl (decide (ns.length = n) && ns.all fun v => decide (v < 2 ^ cnt s))) H'
section
variable {P : Program} {w : World} {K : PySem.W.Frag} {mg : Str → Option Value} {base : Heap} {C : Addr}
theorem sc_count_changes : FnScope ["old", "new", "x"] ["old", "new"] (defScope s_count_changes) := ⟨rfl, rfl, rfl, by decide +kernel, rfl, by decide +kernel, by decide +kernel⟩
theorem ok_count_changes {f : Addr} (D : Dn K mg "count_changes" s_count_changes f ["old", "new"]) (T : Txt K mg C) : Fn P w K mg base 1 "count_changes" f (spCountChanges K) := by
  refine D.fn sc_count_changes (fun vs H Q E h => ?_) (fun cdv A outer s H vs Q E hr h => ?_)
  · obtain ⟨a, b, l, m, rfl, _⟩ := h
    rfl
  · obtain ⟨a, b, l, m, rfl, ha, hb, hl, hm, k⟩ := h
    refine ⟨_, (pss_one (ps_ret (pe_callB call_len_seq (by rfl) T.b_len PySem.boot_len (pa_cons (pe_lc (own := [("x", 2)]) (g := gName 2) (tt := tTest (tOp rNe (tOp (rIxL K) (tVar 0) (tVar 2)) (tOp (rIxL K) (tVar 1) (tVar 2)))) (te := tVar 2) rfl sc_count_changes.nd (pi_range1 rfl T.b_range (pa_cons (pe_callB call_len_seq (by rfl) T.b_len PySem.boot_len (pa_cons (pv 0) pa_nil)) pa_nil)) (blkOk_by (N := n_count_changes) (sc := defScope s_count_changes) (by decide +kernel)) (fun _ _ _ _ _ => pg_name (i := 2) sc_count_changes.nd rfl (Or.inl rfl)) (fun _ _ _ _ _ => pts_one (pt_cmpR op_ne (pe_ix ix_list (pv 0) (pv 2) (fun _ _ => rfl)) (pe_ix ix_list (pv 1) (pv 2) (fun _ _ => rfl)) (nomark _))) (fun _ _ _ _ _ => (pv 2))) pa_nil)))), ?_⟩
    have hlen : (((iv l).length : Nat) : Int).toNat = l.length := by rw [iv_len]; omega
    refine ⟨_, rfl, a, _, rfl, .inl ha, _, rfl, ?_, ?_, ?_⟩
    · omega
    · rw [iv_len]; omega
    rw [hlen]
    intro p hp
    refine lc_range (n := l.length) (fun i H' => Same H H' ∧ H' p = some (.lst (iv ((List.range i).filter (differs l m))))) ⟨Same.new hp, upd_same⟩ ?_ ?_
    · rintro i H' hi ⟨s1, hq⟩
      rw [Int.zero_add]
      refine ⟨rfl, ?_⟩
      refine ⟨_, rfl, _, rfl, a, _, _, _, rfl, rfl, s1.seq ha, iv_at rfl hi, _, rfl, _, rfl, b, _, _, _, rfl, rfl, s1.seq hb, iv_at rfl (by rw [hm]; exact hi), rfl, _, rfl, ?_⟩
      rw [int_eq]
      have e0 : (!decide (((l.getD i 0 : Nat) : Int) = ((m.getD i 0 : Nat) : Int))) = differs l m i := by
        unfold differs
        refine congrArg not ?_
        rw [decide_eq_decide]
        omega
      rw [e0]
      refine iteI (fun e2 => ?_) (fun e2 => ⟨s1, ?_⟩)
      · refine ⟨_, rfl, _, hq, ?_, fun c o e => ?_, ?_⟩
        · rw [iv_len]
          refine Nat.lt_of_le_of_lt (List.length_filter_le _ _) ?_
          rw [List.length_range]
          exact Nat.lt_of_lt_of_le hi (Nat.le_trans hl (by decide))
        · rw [upd_ne (ne_of_none e hp)]
          exact s1 c o e
        · rw [upd_same, filter_range, if_pos e2, iv_app]
          rfl
      · rw [filter_range, if_neg (by rw [e2]; exact Bool.false_ne_true), List.append_nil]
        exact hq
    · rintro H' ⟨s1, hq⟩
      refine ⟨p, _, rfl, .inl (SqL.of hq), ?_⟩
      rw [iv_len]
      exact k _ s1
theorem sc_yes_or_no : FnScope ["holds"] ["holds"] (defScope s_yes_or_no) := ⟨rfl, rfl, rfl, by decide +kernel, rfl, by decide +kernel, by decide +kernel⟩
theorem ok_yes_or_no {f : Addr} (D : Dn K mg "yes_or_no" s_yes_or_no f ["holds"]) : Fn P w K mg base 1 "yes_or_no" f spYesNo := by
  refine D.fn sc_yes_or_no (fun vs H Q E h => ?_) (fun cdv A outer s H vs Q E hr h => ?_)
  · obtain ⟨c, rfl, _⟩ := h
    rfl
  · obtain ⟨c, rfl, k⟩ := h
    refine ⟨_, (pss_one (ps_ret (pe_lst (pa_cons (pe_ifExp (pt_val (pv 0)) pe_int pe_int) pa_nil)))), ?_⟩
    refine ⟨_, rfl, _, rfl, ?_⟩
    cases c
    · exact iteF ⟨by show 1 ≤ sizeLine; decide, fun p hp => k _ p (Same.new hp) hp upd_same⟩
    · exact iteT ⟨by show 1 ≤ sizeLine; decide, fun p hp => k _ p (Same.new hp) hp upd_same⟩
theorem sc_shown_or_refused : FnScope ["found"] ["found"] (defScope s_shown_or_refused) := ⟨rfl, rfl, rfl, by decide +kernel, rfl, by decide +kernel, by decide +kernel⟩
theorem ok_shown_or_refused {f : Addr} (D : Dn K mg "shown_or_refused" s_shown_or_refused f ["found"]) (T : Txt K mg C) : Fn P w K mg base 1 "shown_or_refused" f (spShown K) := by
  refine D.fn sc_shown_or_refused (fun vs H Q E h => ?_) (fun cdv A outer s H vs Q E hr h => ?_)
  · obtain ⟨a, l, rfl, _⟩ := h
    rfl
  · obtain ⟨a, l, rfl, ha, k1, k2⟩ := h
    refine ⟨_, (pss_one (ps_ret (pe_ifExp (pt_cmpR (op_neD hr.units) (pv 0) (pe_lst pa_nil) (nomark _)) (pv 0) (pe_lst (pa_cons (pe_gi T.c_NOTHING_TO_SHOW rfl) pa_nil))))), ?_⟩
    refine ⟨_, rfl, Nat.zero_le _, fun p hp => ?_⟩
    refine ⟨_, _, .lst (SqL.of ((Same.new hp) _ _ ha)) (iv_dp _), .lst (SqL.of upd_same) .nil, dv_sh _, dv_sh [], _, rfl, ?_⟩
    rw [dv_nil]
    cases l with
    | nil =>
      refine iteF ⟨by show 1 ≤ sizeLine; decide, fun q hq => ?_⟩
      exact k2 rfl _ q ((Same.new hp).trans (Same.new hq)) ((Same.new hp).free hq) upd_same
    | cons v l =>
      exact iteT ⟨_, rfl, k1 (by intro z; cases z) _ (Same.new hp)⟩
theorem sc_is_row_of_answers : FnScope ["book", "row", "length", "v"] ["book", "row", "length"] (defScope s_is_row_of_answers) := ⟨rfl, rfl, rfl, by decide +kernel, rfl, by decide +kernel, by decide +kernel⟩
theorem ok_is_row_of_answers {f : Addr} (D : Dn K mg "is_row_of_answers" s_is_row_of_answers f ["book", "row", "length"]) (T : Txt K mg C) (M_has_answers : Met P w K mg base 2 C "has_answers" (spHasAnswers C)) : Fn P w K mg base 3 "is_row_of_answers" f (spIsRow K C) := by
  refine D.fn sc_is_row_of_answers (fun vs H Q E h => ?_) (fun cdv A outer s H vs Q E hr h => ?_)
  · obtain ⟨b, g, r, z, ns, n, rfl, _⟩ := h
    rfl
  · obtain ⟨b, g, r, z, ns, n, rfl, B, hS, hl, k⟩ := h
    refine ⟨_, (pss_one (ps_ret (pe_and (pe_cmpR op_eq (pe_callB call_len_seq (by rfl) T.b_len PySem.boot_len (pa_cons (pv 1) pa_nil)) (pv 2) (nomark _)) (pe_one (pe_callB (cr_all rfl) (by rfl) T.b_all (by decide +kernel) (pa_cons (pe_lc (own := [("v", 3)]) (g := gName 3) rfl sc_is_row_of_answers.nd (pi_list (pv 1)) (blkOk_by (N := n_is_row_of_answers) (sc := defScope s_is_row_of_answers) (by decide +kernel)) (fun _ _ _ _ _ => pg_name (i := 3) sc_is_row_of_answers.nd rfl (Or.inl rfl)) (fun _ _ _ _ _ => pts_nil) (fun _ _ _ _ _ => (pe_met M_has_answers hr (by decide) (pv 0) (pa_cons (pv 3) pa_nil)))) pa_nil)))))), ?_⟩
    refine ⟨_, rfl, r, _, rfl, .inl hS, _, rfl, rfl, _, rfl, ?_⟩
    rw [int_eq, iv_len, show decide ((ns.length : Int) = (n : Int)) = decide (ns.length = n) from by rw [decide_eq_decide]; omega]
    refine iteI (fun e1 => ?_) (fun e1 => ?_)
    · refine ⟨_, rfl, r, rfl, ⟨_, hS⟩, fun p hp => ?_⟩
      refine lc_list (K := K) (a := r) (xs := iv ns) (fun i H' => Same H H' ∧ H' p = some (.lst (((ns.take i).map fun v => decide (v < 2 ^ cnt z)).map V.bl))) ⟨Same.new hp, upd_same⟩ (fun i H' _ ⟨s1, _⟩ => s1.seq hS) ?_ ?_
      · rintro i y H' hi ⟨s1, hq⟩
        obtain ⟨v, hv, rfl⟩ : ∃ v : Nat, ns[i]? = some v ∧ y = V.int (v : Int) := by
          unfold iv at hi
          rw [List.getElem?_map] at hi
          cases e : ns[i]? with
          | none =>
            rw [e] at hi
            cases hi
          | some z =>
            rw [e] at hi
            exact ⟨z, rfl, (Option.some.inj hi).symm⟩
        have B1 := B.mono s1
        obtain ⟨dx, hb⟩ := B1.obj
        refine ⟨rfl, ?_⟩
        refine ⟨_, rfl, b, dx, _, rfl, hb, bk_no _ _ (by decide +kernel) (by decide +kernel), _, rfl, b, g, z, v, rfl, B1, _, hq, ?_, fun c o e => ?_, ?_⟩
        · rw [List.length_map, List.length_map]
          refine Nat.lt_of_le_of_lt (List.length_take_le _ _) ?_
          have := (List.getElem?_eq_some_iff.mp hv).1
          exact Nat.lt_of_lt_of_le this (Nat.le_trans hl (by decide))
        · rw [upd_ne (ne_of_none e hp)]
          exact s1 c o e
        · rw [upd_same, take_snoc hv, List.map_append, List.map_append]
          rfl
      · rintro H' ⟨s1, hq⟩
        rw [iv_len, List.take_length] at hq
        refine ⟨p, _, rfl, SqL.of hq, ?_⟩
        have e3 := k H' s1
        rw [e1, Bool.true_and] at e3
        rw [List.all_map]
        exact e3
    · have e3 := k H (Same.refl H)
      rw [e1, Bool.false_and] at e3
      exact e3
theorem count_int (ns : List Nat) (v : Nat) : (ns.map Int.ofNat).count (v : Int) = ns.count v := by
  rw [List.count_eq_countP, List.count_eq_countP, List.countP_map]
  refine List.countP_congr fun y _ => ?_
  show ((y : Int) == (v : Int)) = true ↔ (y == v) = true
  rw [beq_iff_eq, beq_iff_eq]
  omega
theorem order_is (a : Kh412.Abs) (ns : List Nat) : (ns.all fun v => decide (v < a.n) && decide (ns.count v = 1)) = Kh412.okOrder a ns := by
  unfold Kh412.okOrder
  rw [Bool.eq_iff_iff, Bool.and_eq_true, List.all_eq_true, List.all_eq_true, decide_eq_true_eq]
  constructor
  · intro g
    refine ⟨fun v hv => ?_, ?_⟩
    · have := g v hv
      rw [Bool.and_eq_true] at this
      exact this.1
    · rw [List.nodup_iff_count]
      intro v
      by_cases hv : v ∈ ns
      · have := g v hv
        rw [Bool.and_eq_true, decide_eq_true_eq, decide_eq_true_eq] at this
        exact Nat.le_of_eq this.2
      · rw [List.count_eq_zero_of_not_mem hv]
        exact Nat.zero_le _
  · rintro ⟨g1, g2⟩ v hv
    rw [Bool.and_eq_true, decide_eq_true_eq, decide_eq_true_eq]
    have h1 := List.nodup_iff_count.mp g2 v
    have h2 : 0 < ns.count v := List.count_pos_iff.mpr hv
    exact ⟨of_decide_eq_true (g1 v hv), by omega⟩
theorem iv_ofs (ns : List Nat) : iv ns = (ns.map Int.ofNat).map V.int := by
  unfold iv
  rw [List.map_map]
  rfl
theorem sc_is_order : FnScope ["book", "row", "k"] ["book", "row"] (defScope s_is_order) := ⟨rfl, rfl, rfl, by decide +kernel, rfl, by decide +kernel, by decide +kernel⟩
theorem ok_is_order {f : Addr} (D : Dn K mg "is_order" s_is_order f ["book", "row"]) (T : Txt K mg C) (M_has_input : Met P w K mg base 2 C "has_input" (spHasInput C)) : Fn P w K mg base 3 "is_order" f (spIsOrder K C) := by
  refine D.fn sc_is_order (fun vs H Q E h => ?_) (fun cdv A outer s H vs Q E hr h => ?_)
  · obtain ⟨b, g, r, a, ns, rfl, _⟩ := h
    rfl
  · obtain ⟨b, g, r, a, ns, rfl, B, hS, hl, k⟩ := h
    refine ⟨_, (pss_one (ps_ret (pe_callB (cr_all rfl) (by rfl) T.b_all (by decide +kernel) (pa_cons (pe_lc (own := [("k", 2)]) (g := gName 2) (te := tAndV (tMeth C "has_input" (spHasInput C) [] E0 (tVar 0) (tCons (tVar 2) tNil)) (tOp rEq (tBM K "list" (rCntI K) (tVar 1) (tCons (tVar 2) tNil)) (tC (.int 1)))) rfl sc_is_order.nd (pi_list (pv 1)) (blkOk_by (N := n_is_order) (sc := defScope s_is_order) (by decide +kernel)) (fun _ _ _ _ _ => pg_name (i := 2) sc_is_order.nd rfl (Or.inl rfl)) (fun _ _ _ _ _ => pts_nil) (fun _ _ _ _ _ => (pe_and (pe_met M_has_input hr (by decide) (pv 0) (pa_cons (pv 2) pa_nil)) (pe_one (pe_cmpR op_eq (pe_bm PySem.F.plainAttrs_list PySem.F.slot_list_count PySem.F.type_list_count mt_lcount (pv 1) (pa_cons (pv 2) pa_nil)) pe_int (nomark _)))))) pa_nil)))), ?_⟩
    refine ⟨_, rfl, r, rfl, ⟨_, hS⟩, fun p hp => ?_⟩
    refine lc_list (K := K) (a := r) (xs := iv ns) (fun i H' => Same H H' ∧ H' p = some (.lst (((ns.take i).map fun v => decide (v < a.n) && decide (ns.count v = 1)).map V.bl))) ⟨Same.new hp, upd_same⟩ (fun i H' _ ⟨s1, _⟩ => s1.seq hS) ?_ ?_
    · rintro i y H' hi ⟨s1, hq⟩
      obtain ⟨v, hv, rfl⟩ := iv_some hi
      have B1 := B.mono s1
      obtain ⟨dx, hb⟩ := B1.obj
      have len : ((((ns.take i).map fun v => decide (v < a.n) && decide (ns.count v = 1)).map V.bl)).length < sizeLine := by
        rw [List.length_map, List.length_map]
        refine Nat.lt_of_le_of_lt (List.length_take_le _ _) ?_
        have := (List.getElem?_eq_some_iff.mp hv).1
        exact Nat.lt_of_lt_of_le this (Nat.le_trans hl (by decide))
      have e9 : ((ns.take (i + 1)).map fun v => decide (v < a.n) && decide (ns.count v = 1)).map V.bl = ((ns.take i).map fun v => decide (v < a.n) && decide (ns.count v = 1)).map V.bl ++ [V.bl (decide (v < a.n) && decide (ns.count v = 1))] := by
        rw [take_snoc hv, List.map_append, List.map_append]
        rfl
      have s9 : ∀ o, Same H (upd H' p o) := fun o c u e => by
        rw [upd_ne (ne_of_none e hp)]
        exact s1 c u e
      refine ⟨rfl, ?_⟩
      refine ⟨_, rfl, b, dx, _, rfl, hb, bk_no _ _ (by decide +kernel) (by decide +kernel), _, rfl, b, g, a, v, rfl, B1, _, rfl, ?_⟩
      refine iteI (fun e1 => ?_) (fun e1 => ⟨_, hq, len, s9 _, ?_⟩)
      · refine ⟨_, rfl, .inl ⟨rfl, _, s1.seq hS⟩, _, rfl, r, ns.map Int.ofNat, v, rfl, rfl, by rw [← iv_ofs]; exact s1.seq hS, rfl, _, hq, len, s9 _, ?_⟩
        rw [upd_same, e9, e1, Bool.true_and, int_eq, count_int, show decide (((ns.count v : Nat) : Int) = 1) = decide (ns.count v = 1) from by rw [decide_eq_decide]; omega]
      · rw [upd_same, e9, e1, Bool.false_and]
    · rintro H' ⟨s1, hq⟩
      rw [iv_len, List.take_length] at hq
      refine ⟨p, _, rfl, SqL.of hq, ?_⟩
      have e3 := k H' s1
      rw [← order_is] at e3
      rw [List.all_map]
      exact e3
theorem sc_is_known_and_sealed : FnScope ["book", "x", "z"] ["book", "x", "z"] (defScope s_is_known_and_sealed) := ⟨rfl, rfl, rfl, by decide +kernel, rfl, by decide +kernel, by decide +kernel⟩
theorem ok_is_known_and_sealed {f : Addr} (D : Dn K mg "is_known_and_sealed" s_is_known_and_sealed f ["book", "x", "z"]) (M_has_inputs : Met P w K mg base 1 C "has_inputs" (spHasInputs C)) : Fn P w K mg base 2 "is_known_and_sealed" f (spKnown C) := by
  refine D.fn sc_is_known_and_sealed (fun vs H Q E h => ?_) (fun cdv A outer s H vs Q E hr h => ?_)
  · obtain ⟨b, g, a, x, z, rfl, _⟩ := h
    rfl
  · obtain ⟨b, g, a, x, z, rfl, B, k⟩ := h
    obtain ⟨dx, hb⟩ := B.obj
    have hlen : (giv (some a)).length = 2 ^ a.n := (B.ok a rfl).len
    refine ⟨_, (pss_one (ps_ret (pe_and (pe_met M_has_inputs hr (by decide) (pv 0) (pa_cons (pv 1) pa_nil)) (pe_and (pe_met M_has_inputs hr (by decide) (pv 0) (pa_cons (pv 2) pa_nil)) (pe_one (pe_cmpR op_eq (pe_op op_and (pv 1) (pv 2)) pe_int (nomark _))))))), ?_⟩
    refine ⟨_, rfl, b, dx, _, rfl, hb, bk_no _ _ (by decide +kernel) (by decide +kernel), _, rfl, b, g, _, x, rfl, B, _, rfl, ?_⟩
    rw [hlen]
    refine iteI (fun e1 => ?_) (fun e1 => ?_)
    · refine ⟨_, rfl, b, dx, _, rfl, hb, bk_no _ _ (by decide +kernel) (by decide +kernel), _, rfl, b, g, _, z, rfl, B, _, rfl, ?_⟩
      rw [hlen]
      refine iteI (fun e2 => ?_) (fun e2 => ?_)
      · refine ⟨_, rfl, _, rfl, _, _, rfl, rfl, rfl, ?_⟩
        rw [int_eq, and_nat, show decide (((x &&& z : Nat) : Int) = 0) = decide (x &&& z = 0) from by rw [decide_eq_decide]; omega]
        rw [e1, e2] at k
        exact k
      · rw [e1, e2] at k
        exact k
    · rw [e1] at k
      exact k
end
end Ga

set_option Elab.async false
set_option linter.all false
set_option maxRecDepth 100000
set_option maxHeartbeats 2000000
namespace Ga
open PySem PySem.Spec PyProof.Rows L2
theorem two {l : List Nat} (h : l.length = 2) : ∃ x y, l = [x, y] := match l, h with
  | [x, y], _ => ⟨x, y, rfl⟩
theorem one {l : List Nat} (h : l.length = 1) : ∃ x, l = [x] := match l, h with
  | [x], _ => ⟨x, rfl⟩
abbrev Res := Option Kh412.Abs × Kh412.Ans
/-- what is left to show behind a call: its answer, new; the object as it is due; all else as it was -/
def Cont (C : Addr) (H : Hp) (b g : Addr) (r : Res) (Q : VK) : Prop := ∀ (H' : Hp) (g' q : Addr), BookAt C H' b g' r.1 → (g' = g ∨ H g' = none) → (∀ c o, H c = some o → c ≠ b → c ≠ g → H' c = some o) → H q = none →
  H' q = some (.lst ((r.2.ret :: r.2.out).map V.int)) → Q (.ref q) H'
theorem Cont.look {C : Addr} {H H' : Hp} {b g q : Addr} {s : Option Kh412.Abs} {r : Kh412.Ans} {Q : VK} (k : Cont C H b g (s, r) Q) (B : BookAt C H b g s) (s1 : Same H H') (hq : H q = none) (e : H' q = some (.lst ((r.ret :: r.out).map V.int))) : Q (.ref q) H' :=
  k H' g q (B.mono s1) (.inl rfl) (fun c o h _ _ => s1 c o h) hq e
/-- a refusal, or any answer of one number -/
theorem Cont.say {C : Addr} {H : Hp} {b g p : Addr} {s : Option Kh412.Abs} {z : Int} {Q : VK} (k : Cont C H b g (s, Kh412.say z) Q) (B : BookAt C H b g s) (hp : H p = none) : Q (.ref p) (upd H p (.lst [.int z])) :=
  k.look B (Same.new hp) hp upd_same
def spDo (K : PySem.W.Frag) (C : Addr) (p : Nat) : Sp := fun vs H Q _ => ∃ (b g m : Addr) (s : Option Kh412.Abs) (ms : List Nat), vs = [.ref b, .ref m] ∧ BookAt C H b g s ∧ (p ≠ 0 → s ≠ none) ∧ SqL K H m (iv ms) ∧ okN p ms.length ∧
  Cont C H b g (Kh412.doing s (clN p ms)) Q
/-- a call but begin finds the object begun -/
theorem begun {s : Option Kh412.Abs} {p : Nat} (h : p ≠ 0 → s ≠ none) (hp : p ≠ 0) : ∃ a, s = some a := by
  cases s with
  | none => exact absurd rfl (h hp)
  | some a => exact ⟨a, rfl⟩
theorem Same.sym_ne {H : Hp} {p q : Addr} {o : HO} (h : H p = some o) (hq : H q = none) : p ≠ q := ne_of_none h hq
end Ga

set_option Elab.async false
set_option linter.all false
set_option maxRecDepth 100000
set_option maxHeartbeats 2000000
namespace Ga
open PySem PySem.Spec PyProof.Rows L2
abbrev s_call_begin : Stmt := top 31
abbrev s_call_answer : Stmt := top 32
abbrev s_call_table : Stmt := top 33
abbrev s_call_at : Stmt := top 37
section
variable {P : Program} {w : World} {K : PySem.W.Frag} {mg : Str → Option Value} {base : Heap} {C : Addr}
theorem sc_call_begin : FnScope ["book", "numbers", "inputs", "answer_count"] ["book", "numbers"] (defScope s_call_begin) := ⟨rfl, rfl, rfl, by decide +kernel, rfl, by decide +kernel, by decide +kernel⟩
theorem ok_call_begin {f : Addr} (D : Dn K mg "call_begin" s_call_begin f ["book", "numbers"]) (T : Txt K mg C) : Fn P w K mg base 1 "call_begin" f (spDo K C 0) := by
  refine D.fn sc_call_begin (fun vs H Q E h => ?_) (fun cdv A outer s H vs Q E hr h => ?_)
  · obtain ⟨b, g, m, z, ms, rfl, _⟩ := h
    rfl
  · obtain ⟨b, g, m, z, ms, rfl, B, _, hS, hn, k⟩ := h
    obtain ⟨x, y, rfl⟩ := two hn
    obtain ⟨dx, hb⟩ := B.obj
    refine ⟨_, (pss_cons (ps_set (i := 2) sc_call_begin.nd rfl (Or.inl rfl) (pe_ix ix_list (pv 1) pe_int (fun _ _ => rfl)))
      (pss_cons (ps_set (i := 3) sc_call_begin.nd rfl (Or.inl rfl) (pe_ix ix_list (pv 1) pe_int (fun _ _ => rfl)))
      (pss_cons (ps_if (PW.pt (pw_or (pt_cmpR op_lt (pv 2) pe_int (nomark _)) (pw_or (pt_cmpR op_gt (pv 2) (pe_gi T.c_MOST_INPUTS rfl) (nomark _)) (pw_or (pt_cmpR op_lt (pv 3) pe_int (nomark _)) (pw_or1 (pt_cmpR op_gt (pv 3) (pe_gi T.c_MOST_ANSWERS rfl) (nomark _)))))))
        (pss_one (ps_ret (pe_lst (pa_cons (pe_gi T.c_NOT_AS_TOLD rfl) pa_nil))))
        pss_nil)
      (pss_cons (ps_fld (pv 0) (pe_op op_rep (pe_lst (pa_cons pe_int pa_nil)) (pe_op op_shl pe_int (pv 2))) rfl)
      (pss_cons (ps_fld (pv 0) (pv 3) rfl)
      (pss_one (ps_ret (pe_lst (pa_cons pe_int pa_nil))))))))), ?_⟩
    have bad : (x < 1 ∨ 4 < x ∨ y < 1 ∨ 3 < y) → ∀ p, H p = none → Q (.ref p) (upd H p (.lst [.int (-22)])) := fun c p hp => by
      have e : Kh412.doing z (clN 0 [x, y]) = (z, Kh412.say (-22)) := if_pos c
      rw [e] at k
      exact k.say B hp
    refine ⟨_, rfl, m, _, _, _, rfl, rfl, hS, rfl, ?_⟩
    refine ⟨_, rfl, m, _, _, _, rfl, rfl, hS, rfl, ?_⟩
    refine ⟨_, rfl, _, _, rfl, rfl, _, rfl, ?_⟩
    refine iteI (fun e1 => ?_) (fun e1 => ?_)
    · exact iteT ⟨by show 1 ≤ sizeLine; decide, fun p hp => bad (.inl (by have := of_decide_eq_true e1; omega)) p hp⟩
    refine ⟨_, rfl, _, _, rfl, rfl, _, rfl, ?_⟩
    refine iteI (fun e2 => ?_) (fun e2 => ?_)
    · exact iteT ⟨by show 1 ≤ sizeLine; decide, fun p hp => bad (.inr (.inl (by have := of_decide_eq_true e2; omega))) p hp⟩
    refine ⟨_, rfl, _, _, rfl, rfl, _, rfl, ?_⟩
    refine iteI (fun e3 => ?_) (fun e3 => ?_)
    · exact iteT ⟨by show 1 ≤ sizeLine; decide, fun p hp => bad (.inr (.inr (.inl (by have := of_decide_eq_true e3; omega)))) p hp⟩
    refine ⟨_, rfl, _, _, rfl, rfl, _, rfl, ?_⟩
    refine iteI (fun e4 => ?_) (fun e4 => ?_)
    · exact ⟨by show 1 ≤ sizeLine; decide, fun p hp => bad (.inr (.inr (.inr (by have := of_decide_eq_true e4; omega)))) p hp⟩
    have c1 : 1 ≤ x ∧ x ≤ 4 ∧ 1 ≤ y ∧ y ≤ 3 := by
      have h1 := of_decide_eq_false e1
      have h2 := of_decide_eq_false e2
      have h3 := of_decide_eq_false e3
      have h4 := of_decide_eq_false e4
      omega
    have hx2 : (1 : Int) * 2 ^ ((x : Int)).toNat = ((2 ^ x : Nat) : Int) := by
      rw [Int.one_mul, Int.toNat_natCast, Int.natCast_pow]
      rfl
    have hx16 : 2 ^ x ≤ 16 := Nat.le_trans (Nat.pow_le_pow_right (by decide) c1.2.1) (by decide : 2 ^ 4 ≤ 16)
    refine ⟨by show 1 ≤ sizeLine; decide, fun p hp => ?_⟩
    refine ⟨_, rfl, _, _, rfl, rfl, ⟨by omega, by omega, by decide⟩, p, _, _, rfl, rfl, upd_same, ?_⟩
    rw [hx2]
    refine ⟨Int.le_trans (by decide) (Int.natCast_nonneg _), Int.lt_of_le_of_lt (Int.ofNat_le.mpr hx16) (by decide), by rw [Int.toNat_natCast]; exact Nat.le_trans (Nat.mul_le_mul_left 1 hx16) (by decide), fun q hq => ?_⟩
    have s1 : Same H (upd H p (.lst [.int 0])) := Same.new hp
    have nbq : b ≠ q := ne_of_none (s1 _ _ hb) hq
    refine ⟨_, rfl, b, C, dx, _, rfl, by rw [upd_ne nbq]; exact s1 _ _ hb, T.cl, T.n_given, (by show 2 < 1000; decide), ?_⟩
    refine ⟨_, rfl, _, rfl, b, C, dx, _, rfl, upd_same, T.cl, T.n_answer_count, (by show 2 < 1000; decide), ?_⟩
    refine ⟨by show 1 ≤ sizeLine; decide, fun t ht => ?_⟩
    have e : Kh412.doing z (clN 0 [x, y]) = (some ⟨x, y, List.replicate (2 ^ x) 0⟩, Kh412.say 0) := if_neg (by show ¬ (x < 1 ∨ 4 < x ∨ y < 1 ∨ 3 < y); omega)
    rw [e] at k
    have ntb : b ≠ t := fun q => by
      rw [← q, upd_same] at ht
      cases ht
    have nqt : q ≠ t := fun z => by
      rw [← z, upd_ne nbq.symm, upd_ne nbq.symm, upd_same] at ht
      cases ht
    have hq0 : H q = none := s1.free hq
    refine k _ q t ⟨⟨dx, ?_⟩, ?_, ?_⟩ (.inr hq0) (fun c o h hcb hcg => ?_) ?_ upd_same
    · rw [upd_ne ntb, upd_same]
      rw [show putF "answer_count" (V.int (y : Int)) (putF "given" (V.ref q) (bkF g (cnt z))) = bkF q y from by rw [bk_put_given, bk_put_count]]
      rfl
    · rw [upd_ne nqt, upd_ne nbq.symm, upd_ne nbq.symm, upd_same]
      show some (HO.lst (List.replicate ((2 ^ x : Nat) : Int).toNat [V.int 0]).flatten) = some (HO.lst (iv (List.replicate (2 ^ x) 0)))
      rw [Int.toNat_natCast]
      congr 2
      unfold iv
      rw [List.map_replicate]
      exact List.flatten_replicate_singleton
    · intro a ha
      cases ha
      refine ⟨c1.1, c1.2.1, c1.2.2.1, c1.2.2.2, List.length_replicate, fun v hv => ?_⟩
      rw [List.eq_of_mem_replicate hv]
      exact Nat.pow_pos (by decide)
    · have n1 : c ≠ p := ne_of_none h hp
      have n2 : c ≠ q := ne_of_none h hq0
      have n3 : c ≠ t := fun z => by
        rw [← z, upd_ne hcb, upd_ne hcb, upd_ne n2, upd_ne n1, h] at ht
        cases ht
      rw [upd_ne n3, upd_ne hcb, upd_ne hcb, upd_ne n2, upd_ne n1]
      exact h
    · have n1 : t ≠ q := nqt.symm
      by_cases hp' : t = p
      · rw [hp']; exact hp
      · rw [upd_ne ntb.symm, upd_ne ntb.symm, upd_ne n1, upd_ne hp'] at ht
        exact ht
theorem sc_call_at : FnScope ["book", "numbers", "x"] ["book", "numbers"] (defScope s_call_at) := ⟨rfl, rfl, rfl, by decide +kernel, rfl, by decide +kernel, by decide +kernel⟩
theorem ok_call_at {f : Addr} (D : Dn K mg "call_at" s_call_at f ["book", "numbers"]) (T : Txt K mg C) (M_has_inputs : Met P w K mg base 1 C "has_inputs" (spHasInputs C)) : Fn P w K mg base 2 "call_at" f (spDo K C 6) := by
  refine D.fn sc_call_at (fun vs H Q E h => ?_) (fun cdv A outer s H vs Q E hr h => ?_)
  · obtain ⟨b, g, m, z, ms, rfl, _⟩ := h
    rfl
  · obtain ⟨b, g, m, z, ms, rfl, B, hz, hS, hn, k⟩ := h
    obtain ⟨x, rfl⟩ := one hn
    obtain ⟨a, rfl⟩ := begun hz (by decide)
    obtain ⟨dx, hb⟩ := B.obj
    refine ⟨_, (pss_cons (ps_set (i := 2) sc_call_at.nd rfl (Or.inl rfl) (pe_ix ix_list (pv 1) pe_int (fun _ _ => rfl)))
      (pss_cons (ps_if (pt_not (pt_val (pe_met M_has_inputs hr (by decide) (pv 0) (pa_cons (pv 2) pa_nil))))
        (pss_one (ps_ret (pe_lst (pa_cons (pe_gi T.c_NOT_AS_TOLD rfl) pa_nil))))
        pss_nil)
      (pss_one (ps_ret (pe_lst (pa_cons (pe_ix ix_list (pe_fld (pv 0) rfl) (pv 2) (fun _ _ => rfl)) pa_nil)))))), ?_⟩
    refine ⟨_, rfl, m, _, _, _, rfl, rfl, hS, rfl, ?_⟩
    refine ⟨_, rfl, b, dx, _, rfl, hb, bk_no _ _ (by decide +kernel) (by decide +kernel), _, rfl, b, g, _, x, rfl, B, _, rfl, ?_⟩
    have e0 : Kh412.doing (some a) (clN 6 [x]) = (some a, if Kh412.isX a x = false then Kh412.say (-22) else Kh412.say (Kh412.at_ a x)) := rfl
    have hlen : (giv (some a)).length = 2 ^ a.n := (B.ok a rfl).len
    rw [hlen]
    refine iteI (fun e1 => ?_) (fun e1 => ?_)
    · rw [Bool.not_eq_true'] at e1
      rw [e0, if_pos (show Kh412.isX a x = false from e1)] at k
      exact ⟨by show 1 ≤ sizeLine; decide, fun p hp => k.say B hp⟩
    · rw [Bool.not_eq_false'] at e1
      rw [e0, if_neg (show ¬ Kh412.isX a x = false from fun q => by unfold Kh412.isX at q; rw [e1] at q; cases q)] at k
      refine ⟨_, rfl, b, C, dx, _, _, rfl, hb, T.cl, T.n_given, bk_given _ _, _, rfl, g, _, _, _, rfl, rfl, SqL.of B.lst, iv_at rfl (by rw [hlen]; exact of_decide_eq_true e1), by show 1 ≤ sizeLine; decide, fun p hp => k.say B hp⟩
end
end Ga

set_option Elab.async false
set_option linter.all false
set_option maxRecDepth 100000
set_option maxHeartbeats 2000000
namespace Ga
open PySem PySem.Spec PyProof.Rows L2
abbrev s_call_behind : Stmt := top 34
abbrev n_call_behind : List Str := ["book", "row", "v"]
abbrev s_call_lift : Stmt := top 35
abbrev s_call_sink : Stmt := top 36
abbrev s_call_grows : Stmt := top 38
abbrev s_call_shrinks : Stmt := top 39
abbrev s_call_adds : Stmt := top 40
abbrev s_call_parts : Stmt := top 41
abbrev s_call_grows_one : Stmt := top 42
theorem isX_f {a : Kh412.Abs} {x : Nat} (h : decide (x < 2 ^ a.n) = false) : Kh412.isX a x = false := h
theorem isX_t {a : Kh412.Abs} {x : Nat} (h : decide (x < 2 ^ a.n) = true) : ¬ Kh412.isX a x = false := fun q => by
  unfold Kh412.isX at q
  rw [h] at q
  cases q
theorem any_all (l : List Nat) (a : Kh412.Abs) : (l.any fun v => Kh412.isV a v == false) = !(l.all fun v => decide (v < 2 ^ a.k)) := by
  induction l with
  | nil => rfl
  | cons v l ih =>
    rw [List.any_cons, List.all_cons, ih]
    unfold Kh412.isV
    cases decide (v < 2 ^ a.k) <;> cases (l.all fun v => decide (v < 2 ^ a.k)) <;> rfl
section
variable {P : Program} {w : World} {K : PySem.W.Frag} {mg : Str → Option Value} {base : Heap} {C : Addr}
theorem sc_call_answer : FnScope ["book", "numbers", "x", "v", "before"] ["book", "numbers"] (defScope s_call_answer) := ⟨rfl, rfl, rfl, by decide +kernel, rfl, by decide +kernel, by decide +kernel⟩
theorem ok_call_answer {f : Addr} (D : Dn K mg "call_answer" s_call_answer f ["book", "numbers"]) (T : Txt K mg C) (M_has_inputs : Met P w K mg base 1 C "has_inputs" (spHasInputs C)) (M_has_answers : Met P w K mg base 2 C "has_answers" (spHasAnswers C)) : Fn P w K mg base 3 "call_answer" f (spDo K C 1) := by
  refine D.fn sc_call_answer (fun vs H Q E h => ?_) (fun cdv A outer s H vs Q E hr h => ?_)
  · obtain ⟨b, g, m, z, ms, rfl, _⟩ := h
    rfl
  · obtain ⟨b, g, m, z, ms, rfl, B, hz, hS, hn, k⟩ := h
    obtain ⟨x, v, rfl⟩ := two hn
    obtain ⟨a, rfl⟩ := begun hz (by decide)
    obtain ⟨dx, hb⟩ := B.obj
    have ga := B.ok a rfl
    refine ⟨_, (pss_cons (ps_set (i := 2) sc_call_answer.nd rfl (Or.inl rfl) (pe_ix ix_list (pv 1) pe_int (fun _ _ => rfl)))
      (pss_cons (ps_set (i := 3) sc_call_answer.nd rfl (Or.inl rfl) (pe_ix ix_list (pv 1) pe_int (fun _ _ => rfl)))
      (pss_cons (ps_if (PW.pt (pw_or (pt_not (pt_val (pe_met M_has_inputs hr (by decide) (pv 0) (pa_cons (pv 2) pa_nil)))) (pw_or1 (pt_not (pt_val (pe_met M_has_answers hr (by decide) (pv 0) (pa_cons (pv 3) pa_nil)))))))
        (pss_one (ps_ret (pe_lst (pa_cons (pe_gi T.c_NOT_AS_TOLD rfl) pa_nil))))
        pss_nil)
      (pss_cons (ps_set (i := 4) sc_call_answer.nd rfl (Or.inl rfl) (pe_ix ix_list (pe_fld (pv 0) rfl) (pv 2) (fun _ _ => rfl)))
      (pss_cons (ps_asg (pv 3) (pg_sub (pe_fld (pv 0) rfl) (pv 2) set_list))
      (pss_one (ps_ret (pe_lst (pa_cons (pv 4) pa_nil))))))))), ?_⟩
    have hlen : (giv (some a)).length = 2 ^ a.n := ga.len
    have e0 : Kh412.doing (some a) (clN 1 [x, v]) = (some (if Kh412.isX a x = false ∨ Kh412.isV a v = false then (a, Kh412.say (-22)) else ({ a with f := a.f.set x v }, Kh412.say (Kh412.at_ a x))).1, (if Kh412.isX a x = false ∨ Kh412.isV a v = false then (a, Kh412.say (-22)) else ({ a with f := a.f.set x v }, Kh412.say (Kh412.at_ a x))).2) := rfl
    have bad : (Kh412.isX a x = false ∨ Kh412.isV a v = false) → ∀ p, H p = none → Q (.ref p) (upd H p (.lst [.int (-22)])) := fun c p hp => by
      rw [e0, if_pos c] at k
      exact k.say B hp
    refine ⟨_, rfl, m, _, _, _, rfl, rfl, hS, rfl, ?_⟩
    refine ⟨_, rfl, m, _, _, _, rfl, rfl, hS, rfl, ?_⟩
    refine ⟨_, rfl, b, dx, _, rfl, hb, bk_no _ _ (by decide +kernel) (by decide +kernel), _, rfl, b, g, _, x, rfl, B, _, rfl, ?_⟩
    rw [hlen]
    refine iteI (fun e1 => ?_) (fun e1 => ?_)
    · rw [Bool.not_eq_true'] at e1
      exact iteT ⟨by show 1 ≤ sizeLine; decide, fun p hp => bad (.inl e1) p hp⟩
    rw [Bool.not_eq_false'] at e1
    refine ⟨_, rfl, b, dx, _, rfl, hb, bk_no _ _ (by decide +kernel) (by decide +kernel), _, rfl, b, g, _, v, rfl, B, _, rfl, ?_⟩
    refine iteI (fun e2 => ?_) (fun e2 => ?_)
    · rw [Bool.not_eq_true'] at e2
      exact ⟨by show 1 ≤ sizeLine; decide, fun p hp => bad (.inr e2) p hp⟩
    rw [Bool.not_eq_false'] at e2
    have hx : x < 2 ^ a.n := of_decide_eq_true e1
    have hv : v < 2 ^ a.k := of_decide_eq_true e2
    rw [e0, if_neg (fun q => q.elim (isX_t e1) (fun q => by unfold Kh412.isV at q; rw [show decide (v < 2 ^ a.k) = true from e2] at q; cases q))] at k
    refine ⟨_, rfl, b, C, dx, _, _, rfl, hb, T.cl, T.n_given, bk_given _ _, _, rfl, g, _, _, _, rfl, rfl, SqL.of B.lst, iv_at rfl (by rw [hlen]; exact hx), ?_⟩
    refine ⟨_, rfl, _, rfl, b, C, dx, _, _, rfl, hb, T.cl, T.n_given, bk_given _ _, _, rfl, g, _, _, x, rfl, rfl, B.lst, ?_, ?_⟩
    · rw [iv_len, hlen]
      unfold ixN
      rw [if_pos (by omega), if_pos (by omega), Int.toNat_natCast]
    · refine ⟨_, rfl, by show 1 ≤ sizeLine; decide, fun q hq => ?_⟩
      rw [iv_set] at hq ⊢
      have ngq : g ≠ q := fun z => by
        rw [← z, upd_same] at hq
        cases hq
      have hq0 : H q = none := by
        rw [upd_ne ngq.symm] at hq
        exact hq
      have nbq : b ≠ q := ne_of_none hb hq0
      refine k _ g q ⟨⟨dx, ?_⟩, ?_, ?_⟩ (.inl rfl) (fun c o h hcb hcg => ?_) hq0 upd_same
      · rw [upd_ne nbq, upd_ne B.ne]
        exact hb
      · rw [upd_ne ngq, upd_same]
        rfl
      · intro a' ha
        cases ha
        refine good_with ga (by rw [List.length_set]; exact ga.len) fun u hu => ?_
        rcases List.mem_or_eq_of_mem_set hu with q | q
        · exact ga.val u q
        · rw [q]; exact hv
      · rw [upd_ne (ne_of_none h hq0), upd_ne hcg]
        exact h
theorem sc_call_table : FnScope ["book", "row"] ["book", "row"] (defScope s_call_table) := ⟨rfl, rfl, rfl, by decide +kernel, rfl, by decide +kernel, by decide +kernel⟩
/-- a new list stands for what's given -/
theorem Cont.put {H H1 H2 : Hp} {b g g' q dx : Addr} {a a' : Kh412.Abs} {r : Kh412.Ans} {Q : VK} (k : Cont C H b g (some a', r) Q) (hb : H b = some (.ins C dx (bkF g a.k))) (hk : a'.k = a.k) (s1 : Same H H1) (hg : H g' = none) (h1 : H1 g' = some (.lst (iv a'.f))) (ok : Good a')
    (s2 : Same (upd H1 b (.ins C dx (putF "given" (.ref g') (bkF g a.k)))) H2) (hq : H q = none) (h2 : H2 q = some (.lst ((r.ret :: r.out).map V.int))) : Q (.ref q) H2 := by
  have nbg : b ≠ g' := ne_of_none hb hg
  refine k H2 g' q ⟨⟨dx, ?_⟩, ?_, ?_⟩ (.inr hg) (fun c o h hcb hcg => ?_) hq h2
  · show H2 b = some (.ins C dx (bkF g' a'.k))
    rw [hk, ← bk_put_given g g' a.k]
    exact s2 _ _ upd_same
  · refine s2 _ _ ?_
    rw [upd_ne nbg.symm]
    exact h1
  · intro z hz
    cases hz
    exact ok
  · refine s2 _ _ ?_
    rw [upd_ne hcb]
    exact s1 _ _ h
theorem ok_call_table {f f1 : Addr} (D : Dn K mg "call_table" s_call_table f ["book", "row"]) (T : Txt K mg C) (G_is_row_of_answers : Fn P w K mg base 3 "is_row_of_answers" f1 (spIsRow K C)) : Fn P w K mg base 4 "call_table" f (spDo K C 2) := by
  refine D.fn sc_call_table (fun vs H Q E h => ?_) (fun cdv A outer s H vs Q E hr h => ?_)
  · obtain ⟨b, g, m, z, ms, rfl, _⟩ := h
    rfl
  · obtain ⟨b, g, m, z, ms, rfl, B, hz, hS, hn, k⟩ := h
    obtain ⟨a, rfl⟩ := begun hz (by decide)
    obtain ⟨dx, hb⟩ := B.obj
    have ga := B.ok a rfl
    refine ⟨_, (pss_cons (ps_if (pt_not (pt_val (pe_fn G_is_row_of_answers hr (by decide) rfl (pa_cons (pv 0) (pa_cons (pv 1) (pa_cons (pe_callB call_len_seq (by rfl) T.b_len PySem.boot_len (pa_cons (pe_fld (pv 0) rfl) pa_nil)) pa_nil))))))
        (pss_one (ps_ret (pe_lst (pa_cons (pe_gi T.c_NOT_AS_TOLD rfl) pa_nil))))
        pss_nil)
      (pss_cons (ps_fld (pv 0) (pe_callTy call_list_of (by rfl) T.b_list (by decide +kernel) (pa_cons (pv 1) pa_nil)) rfl)
      (pss_one (ps_ret (pe_lst (pa_cons pe_int pa_nil)))))), ?_⟩
    have e0 : Kh412.doing (some a) (clN 2 ms) = (some (if ms.length ≠ 2 ^ a.n ∨ ms.any (fun v => Kh412.isV a v == false) then (a, Kh412.say (-22)) else ({ a with f := ms }, Kh412.say 0)).1, (if ms.length ≠ 2 ^ a.n ∨ ms.any (fun v => Kh412.isV a v == false) then (a, Kh412.say (-22)) else ({ a with f := ms }, Kh412.say 0)).2) := rfl
    refine ⟨_, rfl, _, rfl, _, rfl, b, C, dx, _, _, rfl, hb, T.cl, T.n_given, bk_given _ _, g, _, rfl, .inl (SqL.of B.lst), b, g, m, _, ms, a.f.length, ?_, B, hS, hn, fun H1 s1 => ⟨_, rfl, ?_⟩⟩
    · rw [iv_len]
      rfl
    rw [ga.len]
    refine iteI (fun e1 => ?_) (fun e1 => ?_)
    · have c : ms.length ≠ 2 ^ a.n ∨ ms.any (fun v => Kh412.isV a v == false) = true := by
        rw [any_all]
        rw [Bool.not_eq_true', Bool.and_eq_false_iff] at e1
        rcases e1 with q | q
        · exact .inl (of_decide_eq_false q)
        · exact .inr (by rw [show (ms.all fun v => decide (v < 2 ^ a.k)) = false from q]; rfl)
      rw [e0, if_pos c] at k
      exact ⟨by show 1 ≤ sizeLine; decide, fun p hp => k.look B (s1.trans (Same.new hp)) (s1.free hp) upd_same⟩
    · rw [Bool.not_eq_false', Bool.and_eq_true] at e1
      have hl := of_decide_eq_true e1.1
      have hv : (ms.all fun v => decide (v < 2 ^ a.k)) = true := e1.2
      rw [e0, if_neg (fun q => q.elim (fun q => q hl) (fun q => by rw [any_all, hv] at q; cases q))] at k
      refine ⟨_, rfl, m, _, rfl, .inl (s1.seq hS), fun l hl' => ?_⟩
      have hl0 := s1.free hl'
      have s2 := s1.trans (Same.new (o := .lst (iv ms)) hl')
      refine ⟨_, rfl, b, C, dx, _, rfl, s2 _ _ hb, T.cl, T.n_given, (by show 2 < 1000; decide), ?_⟩
      refine ⟨by show 1 ≤ sizeLine; decide, fun q hq => ?_⟩
      refine k.put (a := a) (g' := l) hb rfl s2 hl0 upd_same (good_with ga hl fun v q => of_decide_eq_true (List.all_eq_true.mp hv v q)) (Same.new hq) ?_ upd_same
      by_cases hqb : q = b
      · rw [hqb, upd_same] at hq
        cases hq
      · rw [upd_ne hqb] at hq
        exact s2.free hq
end
end Ga

set_option Elab.async false
set_option linter.all false
set_option maxRecDepth 100000
set_option maxHeartbeats 2000000
namespace Ga
open PySem PySem.Spec PyProof.Rows L2
theorem getD_range (g : Nat → Nat) {n x : Nat} (hx : x < n) : ((List.range n).map g).getD x 0 = g x := by
  rw [List.getD_eq_getElem?_getD, List.getElem?_map, List.getElem?_range hx]
  rfl
theorem lift_count {a : Kh412.Abs} (h : Good a) : ((Kh412.inputs a).filter fun x => Kh412.up a x != Kh412.at_ a x).length = ((List.range a.f.length).filter (differs a.f (aboveL a.f))).length := by
  rw [h.len]
  refine congrArg List.length (fl_congr fun x hx => ?_)
  have hx := mem_in h hx
  unfold differs
  rw [aboveL, h.len, getD_range _ hx, (up_is h hx).1]
  show (!(aboveAt a.f x == a.f.getD x 0)) = _
  refine congrArg not ?_
  rw [Bool.eq_iff_iff, beq_iff_eq, decide_eq_true_eq]
  exact eq_comm
theorem sink_count {a : Kh412.Abs} (h : Good a) : ((Kh412.inputs a).filter fun x => Kh412.down a x != Kh412.at_ a x).length = ((List.range a.f.length).filter (differs a.f (belowL a.f))).length := by
  rw [h.len]
  refine congrArg List.length (fl_congr fun x hx => ?_)
  have hx := mem_in h hx
  unfold differs
  rw [belowL, h.len, getD_range _ hx, (down_is h hx).1]
  show (!(belowAt a.f x == a.f.getD x 0)) = _
  refine congrArg not ?_
  rw [Bool.eq_iff_iff, beq_iff_eq, decide_eq_true_eq]
  exact eq_comm
section
variable {P : Program} {w : World} {K : PySem.W.Frag} {mg : Str → Option Value} {base : Heap} {C : Addr}
theorem sc_call_behind : FnScope ["book", "row", "v"] ["book", "row"] (defScope s_call_behind) := ⟨rfl, rfl, rfl, by decide +kernel, rfl, by decide +kernel, by decide +kernel⟩
theorem ok_call_behind {f f1 : Addr} (D : Dn K mg "call_behind" s_call_behind f ["book", "row"]) (T : Txt K mg C) (G_is_row_of_answers : Fn P w K mg base 3 "is_row_of_answers" f1 (spIsRow K C)) (M_count_answer_sets : Met P w K mg base 1 C "count_answer_sets" (spCountSets C)) :
    Fn P w K mg base 4 "call_behind" f (spDo K C 3) := by
  refine D.fn sc_call_behind (fun vs H Q E h => ?_) (fun cdv A outer s H vs Q E hr h => ?_)
  · obtain ⟨b, g, m, z, ms, rfl, _⟩ := h
    rfl
  · obtain ⟨b, g, m, z, ms, rfl, B, hz, hS, hn, k⟩ := h
    obtain ⟨a, rfl⟩ := begun hz (by decide)
    obtain ⟨dx, hb⟩ := B.obj
    have ga := B.ok a rfl
    have hn : ms.length ≤ 8 := hn
    refine ⟨_, (pss_cons (ps_if (pt_not (pt_val (pe_fn G_is_row_of_answers hr (by decide) rfl (pa_cons (pv 0) (pa_cons (pv 1) (pa_cons (pe_met0 M_count_answer_sets hr (by decide) (pv 0)) pa_nil))))))
        (pss_one (ps_ret (pe_lst (pa_cons (pe_gi T.c_NOT_AS_TOLD rfl) pa_nil))))
        pss_nil)
      (pss_cons (ps_fld (pv 0) (pe_lc (own := [("v", 2)]) (g := gName 2) (te := tOp (rIxL K) (tVar 1) (tVar 2)) rfl sc_call_behind.nd (pi_list (pe_fld (pv 0) rfl)) (blkOk_by (N := n_call_behind) (sc := defScope s_call_behind) (by decide +kernel)) (fun _ _ _ _ _ => pg_name (i := 2) sc_call_behind.nd rfl (Or.inl rfl)) (fun _ _ _ _ _ => pts_nil) (fun _ _ _ _ _ => (pe_ix ix_list (pv 1) (pv 2) (fun _ _ => rfl)))) rfl)
      (pss_one (ps_ret (pe_lst (pa_cons pe_int pa_nil)))))), ?_⟩
    have e0 : Kh412.doing (some a) (clN 3 ms) = (some (if ms.length ≠ 2 ^ a.k ∨ ms.any (fun v => Kh412.isV a v == false) then (a, Kh412.say (-22)) else ({ a with f := a.f.map fun v => ms.getD v 0 }, Kh412.say 0)).1, (if ms.length ≠ 2 ^ a.k ∨ ms.any (fun v => Kh412.isV a v == false) then (a, Kh412.say (-22)) else ({ a with f := a.f.map fun v => ms.getD v 0 }, Kh412.say 0)).2) := rfl
    refine ⟨_, rfl, _, rfl, _, rfl, b, dx, _, rfl, hb, bk_no _ _ (by decide +kernel) (by decide +kernel), b, g, _, rfl, B, b, g, m, _, ms, 2 ^ a.k, rfl, B, hS, Nat.le_trans hn (by decide), fun H1 s1 => ⟨_, rfl, ?_⟩⟩
    refine iteI (fun e1 => ?_) (fun e1 => ?_)
    · have c : ms.length ≠ 2 ^ a.k ∨ ms.any (fun v => Kh412.isV a v == false) = true := by
        rw [any_all]
        rw [Bool.not_eq_true', Bool.and_eq_false_iff] at e1
        rcases e1 with q | q
        · exact .inl (of_decide_eq_false q)
        · exact .inr (by rw [show (ms.all fun v => decide (v < 2 ^ a.k)) = false from q]; rfl)
      rw [e0, if_pos c] at k
      exact ⟨by show 1 ≤ sizeLine; decide, fun p hp => k.look B (s1.trans (Same.new hp)) (s1.free hp) upd_same⟩
    · rw [Bool.not_eq_false', Bool.and_eq_true] at e1
      have hl := of_decide_eq_true e1.1
      have hv : (ms.all fun v => decide (v < 2 ^ a.k)) = true := e1.2
      rw [e0, if_neg (fun q => q.elim (fun q => q hl) (fun q => by rw [any_all, hv] at q; cases q))] at k
      have B1 := B.mono s1
      refine ⟨_, rfl, b, C, dx, _, _, rfl, s1 _ _ hb, T.cl, T.n_given, bk_given _ _, g, rfl, ⟨_, SqL.of B1.lst⟩, fun p hp => ?_⟩
      have hp0 := s1.free hp
      refine lc_list (K := K) (a := g) (xs := iv a.f) (fun i H' => Same H1 H' ∧ H' p = some (.lst (iv ((a.f.take i).map fun v => ms.getD v 0)))) ⟨Same.new hp, upd_same⟩ (fun i H' _ ⟨s2, _⟩ => SqL.of (s2 _ _ B1.lst)) ?_ ?_
      · rintro i y H' hi ⟨s2, hq⟩
        obtain ⟨v, hv1, rfl⟩ : ∃ v : Nat, a.f[i]? = some v ∧ y = V.int (v : Int) := by
          unfold iv at hi
          rw [List.getElem?_map] at hi
          cases e : a.f[i]? with
          | none =>
            rw [e] at hi
            cases hi
          | some z =>
            rw [e] at hi
            exact ⟨z, rfl, (Option.some.inj hi).symm⟩
        have hv2 : v < ms.length := by
          rw [hl]
          exact ga.val v (List.mem_of_getElem? hv1)
        refine ⟨rfl, ?_⟩
        refine ⟨_, rfl, _, rfl, m, _, _, _, rfl, rfl, s2.seq (s1.seq hS), iv_at rfl hv2, _, hq, ?_, fun c o e => ?_, ?_⟩
        · rw [iv_len, List.length_map]
          refine Nat.lt_of_le_of_lt (List.length_take_le _ _) ?_
          have := (List.getElem?_eq_some_iff.mp hv1).1
          rw [ga.len] at this
          exact Nat.lt_of_lt_of_le this (Nat.le_trans (Nat.pow_le_pow_right (by decide) ga.n4) (by decide))
        · rw [upd_ne (ne_of_none e hp)]
          exact s2 c o e
        · rw [upd_same, take_snoc hv1, List.map_append, iv_app]
          rfl
      · rintro H' ⟨s2, hq⟩
        rw [iv_len, List.take_length] at hq
        have s3 := s1.trans s2
        refine ⟨_, rfl, b, C, dx, _, rfl, s3 _ _ hb, T.cl, T.n_given, (by show 2 < 1000; decide), ?_⟩
        refine ⟨by show 1 ≤ sizeLine; decide, fun q hq' => ?_⟩
        refine k.put (a := a) (g' := p) hb rfl s3 hp0 hq (good_with ga (by rw [List.length_map]; exact ga.len) fun u hu => ?_) (Same.new hq') ?_ upd_same
        · obtain ⟨v, hv1, e⟩ := List.mem_map.mp hu
          have hv2 : v < ms.length := by
            rw [hl]
            exact ga.val v hv1
          rw [← e, List.getD_eq_getElem?_getD, List.getElem?_eq_getElem hv2]
          exact of_decide_eq_true (List.all_eq_true.mp hv _ (List.getElem_mem hv2))
        · by_cases hqb : q = b
          · rw [hqb, upd_same] at hq'
            cases hq'
          · rw [upd_ne hqb] at hq'
            exact s3.free hq'
theorem sc_call_lift : FnScope ["book", "numbers", "before"] ["book", "numbers"] (defScope s_call_lift) := ⟨rfl, rfl, rfl, by decide +kernel, rfl, by decide +kernel, by decide +kernel⟩
theorem ok_call_lift {f f1 f2 : Addr} (D : Dn K mg "call_lift" s_call_lift f ["book", "numbers"]) (T : Txt K mg C) (G_table_above : Fn P w K mg base 3 "table_above" f1 (spNew K aboveL)) (G_count_changes : Fn P w K mg base 1 "count_changes" f2 (spCountChanges K)) :
    Fn P w K mg base 4 "call_lift" f (spDo K C 4) := by
  refine D.fn sc_call_lift (fun vs H Q E h => ?_) (fun cdv A outer s H vs Q E hr h => ?_)
  · obtain ⟨b, g, m, z, ms, rfl, _⟩ := h
    rfl
  · obtain ⟨b, g, m, z, ms, rfl, B, hz, hS, hn, k⟩ := h
    obtain ⟨a, rfl⟩ := begun hz (by decide)
    obtain ⟨dx, hb⟩ := B.obj
    have ga := B.ok a rfl
    refine ⟨_, (pss_cons (ps_set (i := 2) sc_call_lift.nd rfl (Or.inl rfl) (pe_fld (pv 0) rfl))
      (pss_cons (ps_fld (pv 0) (pe_fn G_table_above hr (by decide) rfl (pa_cons (pv 2) pa_nil)) rfl)
      (pss_one (ps_ret (pe_lst (pa_cons (pe_fn G_count_changes hr (by decide) rfl (pa_cons (pv 2) (pa_cons (pe_fld (pv 0) rfl) pa_nil))) pa_nil)))))), ?_⟩
    have e0 : Kh412.doing (some a) (clN 4 ms) = (some { a with f := (Kh412.inputs a).map (Kh412.up a) }, Kh412.say ((Kh412.inputs a).filter fun x => Kh412.up a x != Kh412.at_ a x).length) := rfl
    rw [e0, ← aboveL_is ga, lift_count ga] at k
    refine ⟨_, rfl, b, C, dx, _, _, rfl, hb, T.cl, T.n_given, bk_given _ _, _, rfl, g, a.f, rfl, SqL.of B.lst, ⟨a.n, ga.n4, ga.len⟩, fun H1 p s1 hp hq => ?_⟩
    refine ⟨_, rfl, b, C, dx, _, rfl, s1 _ _ hb, T.cl, T.n_given, (by show 2 < 1000; decide), ?_⟩
    have nbp : b ≠ p := ne_of_none hb hp
    refine ⟨_, rfl, _, rfl, b, C, dx, _, _, rfl, upd_same, T.cl, T.n_given, by rw [show cnt (some a) = a.k from rfl, bk_put_given]; exact bk_given _ _, g, p, a.f, aboveL a.f, rfl, ?_, ?_, ?_, ?_, fun H2 s2 => ?_⟩
    · refine SqL.of ?_
      rw [upd_ne B.ne.symm]
      exact s1 _ _ B.lst
    · refine SqL.of ?_
      rw [upd_ne nbp.symm]
      exact hq
    · rw [ga.len]
      exact Nat.pow_le_pow_right (by decide) ga.n4
    · unfold aboveL
      rw [List.length_map, List.length_range]
    · refine ⟨by show 1 ≤ sizeLine; decide, fun q hq' => ?_⟩
      refine k.put (a := a) (g' := p) hb rfl s1 hp hq (above_good ga) (s2.trans (Same.new hq')) ?_ upd_same
      have hq2 := s2.free hq'
      by_cases hqb : q = b
      · rw [hqb, upd_same] at hq2
        cases hq2
      · rw [upd_ne hqb] at hq2
        exact s1.free hq2
theorem sc_call_sink : FnScope ["book", "numbers", "before"] ["book", "numbers"] (defScope s_call_sink) := ⟨rfl, rfl, rfl, by decide +kernel, rfl, by decide +kernel, by decide +kernel⟩
theorem ok_call_sink {f f1 f2 : Addr} (D : Dn K mg "call_sink" s_call_sink f ["book", "numbers"]) (T : Txt K mg C) (G_table_below : Fn P w K mg base 3 "table_below" f1 (spNew K belowL)) (G_count_changes : Fn P w K mg base 1 "count_changes" f2 (spCountChanges K)) :
    Fn P w K mg base 4 "call_sink" f (spDo K C 5) := by
  refine D.fn sc_call_sink (fun vs H Q E h => ?_) (fun cdv A outer s H vs Q E hr h => ?_)
  · obtain ⟨b, g, m, z, ms, rfl, _⟩ := h
    rfl
  · obtain ⟨b, g, m, z, ms, rfl, B, hz, hS, hn, k⟩ := h
    obtain ⟨a, rfl⟩ := begun hz (by decide)
    obtain ⟨dx, hb⟩ := B.obj
    have ga := B.ok a rfl
    refine ⟨_, (pss_cons (ps_set (i := 2) sc_call_sink.nd rfl (Or.inl rfl) (pe_fld (pv 0) rfl))
      (pss_cons (ps_fld (pv 0) (pe_fn G_table_below hr (by decide) rfl (pa_cons (pv 2) pa_nil)) rfl)
      (pss_one (ps_ret (pe_lst (pa_cons (pe_fn G_count_changes hr (by decide) rfl (pa_cons (pv 2) (pa_cons (pe_fld (pv 0) rfl) pa_nil))) pa_nil)))))), ?_⟩
    have e0 : Kh412.doing (some a) (clN 5 ms) = (some { a with f := (Kh412.inputs a).map (Kh412.down a) }, Kh412.say ((Kh412.inputs a).filter fun x => Kh412.down a x != Kh412.at_ a x).length) := rfl
    rw [e0, ← belowL_is ga, sink_count ga] at k
    refine ⟨_, rfl, b, C, dx, _, _, rfl, hb, T.cl, T.n_given, bk_given _ _, _, rfl, g, a.f, rfl, SqL.of B.lst, ⟨a.n, ga.n4, ga.len⟩, fun H1 p s1 hp hq => ?_⟩
    refine ⟨_, rfl, b, C, dx, _, rfl, s1 _ _ hb, T.cl, T.n_given, (by show 2 < 1000; decide), ?_⟩
    have nbp : b ≠ p := ne_of_none hb hp
    refine ⟨_, rfl, _, rfl, b, C, dx, _, _, rfl, upd_same, T.cl, T.n_given, by rw [show cnt (some a) = a.k from rfl, bk_put_given]; exact bk_given _ _, g, p, a.f, belowL a.f, rfl, ?_, ?_, ?_, ?_, fun H2 s2 => ?_⟩
    · refine SqL.of ?_
      rw [upd_ne B.ne.symm]
      exact s1 _ _ B.lst
    · refine SqL.of ?_
      rw [upd_ne nbp.symm]
      exact hq
    · rw [ga.len]
      exact Nat.pow_le_pow_right (by decide) ga.n4
    · unfold belowL
      rw [List.length_map, List.length_range]
    · refine ⟨by show 1 ≤ sizeLine; decide, fun q hq' => ?_⟩
      refine k.put (a := a) (g' := p) hb rfl s1 hp hq (below_good ga) (s2.trans (Same.new hq')) ?_ upd_same
      have hq2 := s2.free hq'
      by_cases hqb : q = b
      · rw [hqb, upd_same] at hq2
        cases hq2
      · rw [upd_ne hqb] at hq2
        exact s1.free hq2
/-- yes or no, told of a helper's list -/
theorem yes_of {c : Bool} : Kh412.yes c = ⟨(([if c then 1 else 0] : List Nat).map Int.ofNat).headD 0, []⟩ := by cases c <;> rfl
theorem sc_call_grows : FnScope ["book", "numbers"] ["book", "numbers"] (defScope s_call_grows) := ⟨rfl, rfl, rfl, by decide +kernel, rfl, by decide +kernel, by decide +kernel⟩
theorem ok_call_grows {f f1 f2 : Addr} (D : Dn K mg "call_grows" s_call_grows f ["book", "numbers"]) (T : Txt K mg C) (G_first_loss : Fn P w K mg base 2 "first_loss" f1 (spNew K lossL)) (G_yes_or_no : Fn P w K mg base 1 "yes_or_no" f2 spYesNo) :
    Fn P w K mg base 3 "call_grows" f (spDo K C 7) := by
  refine D.fn sc_call_grows (fun vs H Q E h => ?_) (fun cdv A outer s H vs Q E hr h => ?_)
  · obtain ⟨b, g, m, z, ms, rfl, _⟩ := h
    rfl
  · obtain ⟨b, g, m, z, ms, rfl, B, hz, hS, hn, k⟩ := h
    obtain ⟨a, rfl⟩ := begun hz (by decide)
    obtain ⟨dx, hb⟩ := B.obj
    have ga := B.ok a rfl
    refine ⟨_, (pss_one (ps_ret (pe_fn G_yes_or_no hr (by decide) rfl (pa_cons (pe_cmpR (op_eqD hr.units) (pe_fn G_first_loss hr (by decide) rfl (pa_cons (pe_fld (pv 0) rfl) pa_nil)) (pe_lst pa_nil) (nomark _)) pa_nil)))), ?_⟩
    have e0 : Kh412.doing (some a) (clN 7 ms) = (some a, Kh412.yes (Kh412.grows a)) := rfl
    have e1 : Kh412.grows a = decide (lossL a.f = []) := by
      rw [grows_is ga, Bool.eq_iff_iff, decide_eq_true_eq]
      exact (lossL_empty a.f).symm
    rw [e0, e1] at k
    refine ⟨_, rfl, b, C, dx, _, _, rfl, hb, T.cl, T.n_given, bk_given _ _, g, a.f, rfl, SqL.of B.lst, ⟨a.n, ga.n4, ga.len⟩, fun H1 p s1 hp hq => ⟨Nat.zero_le _, fun t ht => ?_⟩⟩
    have s2 := s1.trans (Same.new (o := .lst []) ht)
    refine ⟨_, _, .lst (SqL.of ((Same.new ht) _ _ hq)) (iv_dp _), .lst (SqL.of upd_same) .nil, dv_sh _, dv_sh [], _, rfl, fun H3 q s3 hq' he => ?_⟩
    rw [eqD_nil] at he
    refine k.look B (s2.trans s3) (s2.free hq') ?_
    rw [he]
    cases decide (lossL a.f = []) <;> rfl
theorem sc_call_adds : FnScope ["book", "numbers"] ["book", "numbers"] (defScope s_call_adds) := ⟨rfl, rfl, rfl, by decide +kernel, rfl, by decide +kernel, by decide +kernel⟩
theorem ok_call_adds {f f1 f2 : Addr} (D : Dn K mg "call_adds" s_call_adds f ["book", "numbers"]) (T : Txt K mg C) (G_first_surplus : Fn P w K mg base 1 "first_surplus" f1 (spNew K surplusL)) (G_yes_or_no : Fn P w K mg base 1 "yes_or_no" f2 spYesNo) :
    Fn P w K mg base 2 "call_adds" f (spDo K C 9) := by
  refine D.fn sc_call_adds (fun vs H Q E h => ?_) (fun cdv A outer s H vs Q E hr h => ?_)
  · obtain ⟨b, g, m, z, ms, rfl, _⟩ := h
    rfl
  · obtain ⟨b, g, m, z, ms, rfl, B, hz, hS, hn, k⟩ := h
    obtain ⟨a, rfl⟩ := begun hz (by decide)
    obtain ⟨dx, hb⟩ := B.obj
    have ga := B.ok a rfl
    refine ⟨_, (pss_one (ps_ret (pe_fn G_yes_or_no hr (by decide) rfl (pa_cons (pe_cmpR (op_eqD hr.units) (pe_fn G_first_surplus hr (by decide) rfl (pa_cons (pe_fld (pv 0) rfl) pa_nil)) (pe_lst pa_nil) (nomark _)) pa_nil)))), ?_⟩
    have e0 : Kh412.doing (some a) (clN 9 ms) = (some a, Kh412.yes (Kh412.adds a)) := rfl
    have e1 : Kh412.adds a = decide (surplusL a.f = []) := by
      rw [adds_is ga, Bool.eq_iff_iff, decide_eq_true_eq]
      exact (surplusL_empty a.f).symm
    rw [e0, e1] at k
    refine ⟨_, rfl, b, C, dx, _, _, rfl, hb, T.cl, T.n_given, bk_given _ _, g, a.f, rfl, SqL.of B.lst, ⟨a.n, ga.n4, ga.len⟩, fun H1 p s1 hp hq => ⟨Nat.zero_le _, fun t ht => ?_⟩⟩
    have s2 := s1.trans (Same.new (o := .lst []) ht)
    refine ⟨_, _, .lst (SqL.of ((Same.new ht) _ _ hq)) (iv_dp _), .lst (SqL.of upd_same) .nil, dv_sh _, dv_sh [], _, rfl, fun H3 q s3 hq' he => ?_⟩
    rw [eqD_nil] at he
    refine k.look B (s2.trans s3) (s2.free hq') ?_
    rw [he]
    cases decide (surplusL a.f = []) <;> rfl
theorem sc_call_shrinks : FnScope ["book", "numbers"] ["book", "numbers"] (defScope s_call_shrinks) := ⟨rfl, rfl, rfl, by decide +kernel, rfl, by decide +kernel, by decide +kernel⟩
theorem ok_call_shrinks {f f1 f2 : Addr} (D : Dn K mg "call_shrinks" s_call_shrinks f ["book", "numbers"]) (T : Txt K mg C) (G_first_loss : Fn P w K mg base 2 "first_loss" f1 (spNew K lossL)) (G_shown_or_refused : Fn P w K mg base 1 "shown_or_refused" f2 (spShown K)) :
    Fn P w K mg base 3 "call_shrinks" f (spDo K C 8) := by
  refine D.fn sc_call_shrinks (fun vs H Q E h => ?_) (fun cdv A outer s H vs Q E hr h => ?_)
  · obtain ⟨b, g, m, z, ms, rfl, _⟩ := h
    rfl
  · obtain ⟨b, g, m, z, ms, rfl, B, hz, hS, hn, k⟩ := h
    obtain ⟨a, rfl⟩ := begun hz (by decide)
    obtain ⟨dx, hb⟩ := B.obj
    have ga := B.ok a rfl
    refine ⟨_, (pss_one (ps_ret (pe_fn G_shown_or_refused hr (by decide) rfl (pa_cons (pe_fn G_first_loss hr (by decide) rfl (pa_cons (pe_fld (pv 0) rfl) pa_nil)) pa_nil)))), ?_⟩
    have e0 : Kh412.doing (some a) (clN 8 ms) = (some a, match loss a.f with
      | none => Kh412.say (-33)
      | some p => Kh412.nats p.1 [p.2, Kh412.less a.k (Kh412.at_ a p.1) (Kh412.at_ a p.2)]) := by
      rw [← loss_is ga]
      rfl
    rw [e0] at k
    refine ⟨_, rfl, b, C, dx, _, _, rfl, hb, T.cl, T.n_given, bk_given _ _, g, a.f, rfl, SqL.of B.lst, ⟨a.n, ga.n4, ga.len⟩, fun H1 p s1 hp hq => ?_⟩
    refine ⟨p, lossL a.f, rfl, hq, fun hne H2 s2 => ?_, fun he H2 q s2 hq' h2 => ?_⟩
    · cases el : loss a.f with
      | none => exact absurd (by unfold lossL; rw [el]) hne
      | some pr =>
        rw [el] at k
        refine k.look B (s1.trans s2) hp ?_
        rw [s2 _ _ hq]
        have e3 : Kh412.less a.k (Kh412.at_ a pr.1) (Kh412.at_ a pr.2) = lost a.f pr.1 pr.2 := lessK ga (at_lt ga _) (at_lt ga _)
        unfold lossL
        rw [el]
        show some (HO.lst (iv [pr.1, pr.2, lost a.f pr.1 pr.2])) = some (HO.lst ((((pr.1 : Nat) : Int) :: [pr.2, Kh412.less a.k (Kh412.at_ a pr.1) (Kh412.at_ a pr.2)].map Int.ofNat).map V.int))
        rw [e3]
        rfl
    · have el : loss a.f = none := Option.isNone_iff_eq_none.mp ((lossL_empty a.f).mp he)
      rw [el] at k
      exact k.look B (s1.trans s2) (s1.free hq') h2
theorem sc_call_parts : FnScope ["book", "numbers"] ["book", "numbers"] (defScope s_call_parts) := ⟨rfl, rfl, rfl, by decide +kernel, rfl, by decide +kernel, by decide +kernel⟩
theorem ok_call_parts {f f1 f2 : Addr} (D : Dn K mg "call_parts" s_call_parts f ["book", "numbers"]) (T : Txt K mg C) (G_first_surplus : Fn P w K mg base 1 "first_surplus" f1 (spNew K surplusL)) (G_shown_or_refused : Fn P w K mg base 1 "shown_or_refused" f2 (spShown K)) :
    Fn P w K mg base 2 "call_parts" f (spDo K C 10) := by
  refine D.fn sc_call_parts (fun vs H Q E h => ?_) (fun cdv A outer s H vs Q E hr h => ?_)
  · obtain ⟨b, g, m, z, ms, rfl, _⟩ := h
    rfl
  · obtain ⟨b, g, m, z, ms, rfl, B, hz, hS, hn, k⟩ := h
    obtain ⟨a, rfl⟩ := begun hz (by decide)
    obtain ⟨dx, hb⟩ := B.obj
    have ga := B.ok a rfl
    refine ⟨_, (pss_one (ps_ret (pe_fn G_shown_or_refused hr (by decide) rfl (pa_cons (pe_fn G_first_surplus hr (by decide) rfl (pa_cons (pe_fld (pv 0) rfl) pa_nil)) pa_nil)))), ?_⟩
    have e0 : Kh412.doing (some a) (clN 10 ms) = (some a, match surplus a.f with
      | none => Kh412.say (-33)
      | some p => Kh412.nats p.1 [p.2]) := by
      rw [← surplus_is ga]
      rfl
    rw [e0] at k
    refine ⟨_, rfl, b, C, dx, _, _, rfl, hb, T.cl, T.n_given, bk_given _ _, g, a.f, rfl, SqL.of B.lst, ⟨a.n, ga.n4, ga.len⟩, fun H1 p s1 hp hq => ?_⟩
    refine ⟨p, surplusL a.f, rfl, hq, fun hne H2 s2 => ?_, fun he H2 q s2 hq' h2 => ?_⟩
    · cases el : surplus a.f with
      | none => exact absurd (by unfold surplusL; rw [el]) hne
      | some pr =>
        rw [el] at k
        refine k.look B (s1.trans s2) hp ?_
        rw [s2 _ _ hq]
        unfold surplusL
        rw [el]
        rfl
    · have el : surplus a.f = none := Option.isNone_iff_eq_none.mp ((surplusL_empty a.f).mp he)
      rw [el] at k
      exact k.look B (s1.trans s2) (s1.free hq') h2
end
end Ga

set_option Elab.async false
set_option linter.all false
set_option maxRecDepth 100000
set_option maxHeartbeats 2000000
namespace Ga
open PySem PySem.Spec PyProof.Rows L2
section
variable {P : Program} {w : World} {K : PySem.W.Frag} {mg : Str → Option Value} {base : Heap} {C : Addr}
theorem sc_call_grows_one : FnScope ["book", "numbers", "o"] ["book", "numbers"] (defScope s_call_grows_one) := ⟨rfl, rfl, rfl, by decide +kernel, rfl, by decide +kernel, by decide +kernel⟩
theorem ok_call_grows_one {f f1 f2 f3 : Addr} (D : Dn K mg "call_grows_one" s_call_grows_one f ["book", "numbers"]) (T : Txt K mg C) (M_has_answer : Met P w K mg base 1 C "has_answer" (spHasAnswer C)) (G_first_loss : Fn P w K mg base 2 "first_loss" f1 (spNew K lossL)) (G_yes_or_no : Fn P w K mg base 1 "yes_or_no" f2 spYesNo)
    (G_table_alone : Fn P w K mg base 1 "table_alone" f3 (spAlone K)) : Fn P w K mg base 3 "call_grows_one" f (spDo K C 11) := by
  refine D.fn sc_call_grows_one (fun vs H Q E h => ?_) (fun cdv A outer s H vs Q E hr h => ?_)
  · obtain ⟨b, g, m, z, ms, rfl, _⟩ := h
    rfl
  · obtain ⟨b, g, m, z, ms, rfl, B, hz, hS, hn, k⟩ := h
    obtain ⟨o, rfl⟩ := one hn
    obtain ⟨a, rfl⟩ := begun hz (by decide)
    obtain ⟨dx, hb⟩ := B.obj
    have ga := B.ok a rfl
    refine ⟨_, (pss_cons (ps_set (i := 2) sc_call_grows_one.nd rfl (Or.inl rfl) (pe_ix ix_list (pv 1) pe_int (fun _ _ => rfl)))
      (pss_cons (ps_if (pt_not (pt_val (pe_met M_has_answer hr (by decide) (pv 0) (pa_cons (pv 2) pa_nil))))
        (pss_one (ps_ret (pe_lst (pa_cons (pe_gi T.c_NO_SUCH_ANSWER rfl) pa_nil))))
        pss_nil)
      (pss_one (ps_ret (pe_fn G_yes_or_no hr (by decide) rfl (pa_cons (pe_cmpR (op_eqD hr.units) (pe_fn G_first_loss hr (by decide) rfl (pa_cons (pe_fn G_table_alone hr (by decide) rfl (pa_cons (pe_fld (pv 0) rfl) (pa_cons (pv 2) pa_nil))) pa_nil)) (pe_lst pa_nil) (nomark _)) pa_nil)))))), ?_⟩
    have e0 : Kh412.doing (some a) (clN 11 [o]) = (some a, if a.k ≤ o then Kh412.say (-2) else Kh412.yes (Kh412.grows (Kh412.alone a o))) := rfl
    refine ⟨_, rfl, m, _, _, _, rfl, rfl, hS, rfl, ?_⟩
    refine ⟨_, rfl, b, dx, _, rfl, hb, bk_no _ _ (by decide +kernel) (by decide +kernel), _, rfl, b, g, _, o, rfl, B, _, rfl, ?_⟩
    refine iteI (fun e1 => ?_) (fun e1 => ?_)
    · rw [Bool.not_eq_true'] at e1
      have h1 : ¬ o < a.k := of_decide_eq_false e1
      rw [e0, if_pos (by omega)] at k
      exact ⟨by show 1 ≤ sizeLine; decide, fun p hp => k.say B hp⟩
    · rw [Bool.not_eq_false'] at e1
      have h1 : o < a.k := of_decide_eq_true e1
      have h3 : o < 3 := Nat.lt_of_lt_of_le h1 ga.k3
      have e2 : Kh412.grows (Kh412.alone a o) = decide (lossL (aloneL a.f o) = []) := by
        rw [grows_one_is ga h1, Bool.eq_iff_iff, decide_eq_true_eq]
        exact (lossL_empty _).symm
      rw [e0, if_neg (by omega), e2] at k
      refine ⟨_, rfl, b, C, dx, _, _, rfl, hb, T.cl, T.n_given, bk_given _ _, _, rfl, g, a.f, o, rfl, SqL.of B.lst, len16 ⟨a.n, ga.n4, ga.len⟩, h3, fun H' p s2 hp hq => ?_⟩
      refine ⟨p, aloneL a.f o, rfl, SqL.of hq, ⟨a.n, ga.n4, by rw [alone_len]; exact ga.len⟩, fun H1 r s1 hr' hq1 => ⟨Nat.zero_le _, fun t ht => ?_⟩⟩
      have s3 := (s2.trans s1).trans (Same.new (o := .lst []) ht)
      refine ⟨_, _, .lst (SqL.of ((Same.new ht) _ _ hq1)) (iv_dp _), .lst (SqL.of upd_same) .nil, dv_sh _, dv_sh [], _, rfl, fun H3 q s4 hq' he => ?_⟩
      rw [eqD_nil] at he
      refine k.look B (s3.trans s4) (s3.free hq') ?_
      rw [he]
      cases decide (lossL (aloneL a.f o) = []) <;> rfl
end
end Ga

set_option Elab.async false
set_option linter.all false
set_option maxRecDepth 100000
set_option maxHeartbeats 2000000
namespace Ga
open PySem PySem.Spec PyProof.Rows L2
abbrev s_call_sure : Stmt := top 43
abbrev n_call_sure : List Str := ["book", "numbers", "x", "z"]
abbrev s_call_may : Stmt := top 44
abbrev n_call_may : List Str := ["book", "numbers", "x", "z"]
abbrev s_call_waits : Stmt := top 45
abbrev n_call_waits : List Str := ["book", "numbers", "x", "o"]
abbrev s_call_worst : Stmt := top 48
abbrev n_call_worst : List Str := ["book", "numbers", "x"]
theorem known_t {a : Kh412.Abs} (ga : Good a) {x z : Nat} (h : (decide (x < 2 ^ a.n) && (decide (z < 2 ^ a.n) && decide (x &&& z = 0))) = true) : (x < 2 ^ a.n ∧ z < 2 ^ a.n ∧ x &&& z = 0) ∧ ¬ (Kh412.isX a x = false ∨ Kh412.isX a z = false ∨ Kh412.meet a.n x z ≠ 0) := by
  rw [Bool.and_eq_true, Bool.and_eq_true] at h
  obtain ⟨h1, h2, h3⟩ := h
  refine ⟨⟨of_decide_eq_true h1, of_decide_eq_true h2, of_decide_eq_true h3⟩, ?_⟩
  rintro (q | q | q)
  · exact isX_t h1 q
  · exact isX_t h2 q
  · rw [meetN ga (of_decide_eq_true h1) (of_decide_eq_true h2)] at q
    exact q (of_decide_eq_true h3)
theorem known_f {a : Kh412.Abs} (ga : Good a) {x z : Nat} (h : (decide (x < 2 ^ a.n) && (decide (z < 2 ^ a.n) && decide (x &&& z = 0))) = false) : Kh412.isX a x = false ∨ Kh412.isX a z = false ∨ Kh412.meet a.n x z ≠ 0 := by
  cases h1 : decide (x < 2 ^ a.n)
  · exact .inl (isX_f h1)
  cases h2 : decide (z < 2 ^ a.n)
  · exact .inr (.inl (isX_f h2))
  rw [h1, h2] at h
  refine .inr (.inr ?_)
  rw [meetN ga (of_decide_eq_true h1) (of_decide_eq_true h2)]
  exact of_decide_eq_false h
theorem nats_iv (x : Nat) (l : List Nat) : ((Kh412.nats x l).ret :: (Kh412.nats x l).out).map V.int = iv (x :: l) := by
  show V.int ((x : Nat) : Int) :: (l.map Int.ofNat).map V.int = V.int ((x : Nat) : Int) :: iv l
  rw [← iv_ofs]
section
variable {P : Program} {w : World} {K : PySem.W.Frag} {mg : Str → Option Value} {base : Heap} {C : Addr}
theorem sc_call_sure : FnScope ["book", "numbers", "x", "z"] ["book", "numbers"] (defScope s_call_sure) := ⟨rfl, rfl, rfl, by decide +kernel, rfl, by decide +kernel, by decide +kernel⟩
theorem ok_call_sure {f f1 f2 f3 : Addr} (D : Dn K mg "call_sure" s_call_sure f ["book", "numbers"]) (T : Txt K mg C) (G_given_of_each : Fn P w K mg base 1 "given_of_each" f1 (spEach K)) (G_still_open : Fn P w K mg base 2 "still_open" f2 (spOpen K)) (G_is_known_and_sealed : Fn P w K mg base 2 "is_known_and_sealed" f3 (spKnown C)) :
    Fn P w K mg base 3 "call_sure" f (spDo K C 12) := by
  refine D.fn sc_call_sure (fun vs H Q E h => ?_) (fun cdv A outer s H vs Q E hr h => ?_)
  · obtain ⟨b, g, m, z, ms, rfl, _⟩ := h
    rfl
  · obtain ⟨b, g, m, z, ms, rfl, B, hz, hS, hn, k⟩ := h
    obtain ⟨x, z, rfl⟩ := two hn
    obtain ⟨a, rfl⟩ := begun hz (by decide)
    obtain ⟨dx, hb⟩ := B.obj
    have ga := B.ok a rfl
    have hlen : a.f.length = 2 ^ a.n := ga.len
    have h16 : a.f.length ≤ 16 := len16 ⟨a.n, ga.n4, ga.len⟩
    refine ⟨_, (pss_cons (ps_set (i := 2) sc_call_sure.nd rfl (Or.inl rfl) (pe_ix ix_list (pv 1) pe_int (fun _ _ => rfl)))
      (pss_cons (ps_set (i := 3) sc_call_sure.nd rfl (Or.inl rfl) (pe_ix ix_list (pv 1) pe_int (fun _ _ => rfl)))
      (pss_cons (ps_if (pt_not (pt_val (pe_fn G_is_known_and_sealed hr (by decide) rfl (pa_cons (pv 0) (pa_cons (pv 2) (pa_cons (pv 3) pa_nil))))))
        (pss_one (ps_ret (pe_lst (pa_cons (pe_gi T.c_NOT_AS_TOLD rfl) pa_nil))))
        pss_nil)
      (pss_one (ps_ret (pe_lst (pa_cons (pe_fn G_given_of_each hr (by decide) rfl (pa_cons (pe_fld (pv 0) rfl) (pa_cons (pe_fn G_still_open hr (by decide) rfl (pa_cons (pe_fld (pv 0) rfl) (pa_cons (pv 2) (pa_cons (pv 3) pa_nil)))) pa_nil))) pa_nil))))))), ?_⟩
    have e0 : Kh412.doing (some a) (clN 12 [x, z]) = (some a, if Kh412.isX a x = false ∨ Kh412.isX a z = false ∨ Kh412.meet a.n x z ≠ 0 then Kh412.say (-22) else Kh412.say (Kh412.sure a x z)) := rfl
    refine ⟨_, rfl, m, _, _, _, rfl, rfl, hS, rfl, ?_⟩
    refine ⟨_, rfl, m, _, _, _, rfl, rfl, hS, rfl, ?_⟩
    refine ⟨_, rfl, _, rfl, _, rfl, b, g, a, x, z, rfl, B, _, rfl, ?_⟩
    refine iteI (fun e1 => ?_) (fun e1 => ?_)
    · rw [Bool.not_eq_true'] at e1
      rw [e0, if_pos (known_f ga e1)] at k
      exact ⟨by show 1 ≤ sizeLine; decide, fun p hp => k.say B hp⟩
    · rw [Bool.not_eq_false'] at e1
      obtain ⟨⟨hx, hzz, hm⟩, c⟩ := known_t ga e1
      rw [e0, if_neg c, (sure_is ga hx hzz hm).1] at k
      refine ⟨_, rfl, b, C, dx, _, _, rfl, hb, T.cl, T.n_given, bk_given _ _, _, rfl, b, C, dx, _, _, rfl, hb, T.cl, T.n_given, bk_given _ _, _, rfl, _, rfl, g, a.f, x, z, rfl, SqL.of B.lst, h16, fun H1 q s1 hq h1 => ?_⟩
      refine ⟨g, q, a.f, openL a.f.length x z, rfl, SqL.of (s1 _ _ B.lst), SqL.of h1, fun y hy => open_lt hy, open_ne (by rw [hlen]; exact hx) hm, by show 1 ≤ sizeLine; decide, fun p hp => k.look B (s1.trans (Same.new hp)) (s1.free hp) ?_⟩
      rw [upd_same, hlen]
      rfl
theorem sc_call_may : FnScope ["book", "numbers", "x", "z"] ["book", "numbers"] (defScope s_call_may) := ⟨rfl, rfl, rfl, by decide +kernel, rfl, by decide +kernel, by decide +kernel⟩
theorem ok_call_may {f f1 f2 f3 : Addr} (D : Dn K mg "call_may" s_call_may f ["book", "numbers"]) (T : Txt K mg C) (G_given_of_any : Fn P w K mg base 1 "given_of_any" f1 (spAny K)) (G_still_open : Fn P w K mg base 2 "still_open" f2 (spOpen K)) (G_is_known_and_sealed : Fn P w K mg base 2 "is_known_and_sealed" f3 (spKnown C)) :
    Fn P w K mg base 3 "call_may" f (spDo K C 13) := by
  refine D.fn sc_call_may (fun vs H Q E h => ?_) (fun cdv A outer s H vs Q E hr h => ?_)
  · obtain ⟨b, g, m, z, ms, rfl, _⟩ := h
    rfl
  · obtain ⟨b, g, m, z, ms, rfl, B, hz, hS, hn, k⟩ := h
    obtain ⟨x, z, rfl⟩ := two hn
    obtain ⟨a, rfl⟩ := begun hz (by decide)
    obtain ⟨dx, hb⟩ := B.obj
    have ga := B.ok a rfl
    have hlen : a.f.length = 2 ^ a.n := ga.len
    have h16 : a.f.length ≤ 16 := len16 ⟨a.n, ga.n4, ga.len⟩
    refine ⟨_, (pss_cons (ps_set (i := 2) sc_call_may.nd rfl (Or.inl rfl) (pe_ix ix_list (pv 1) pe_int (fun _ _ => rfl)))
      (pss_cons (ps_set (i := 3) sc_call_may.nd rfl (Or.inl rfl) (pe_ix ix_list (pv 1) pe_int (fun _ _ => rfl)))
      (pss_cons (ps_if (pt_not (pt_val (pe_fn G_is_known_and_sealed hr (by decide) rfl (pa_cons (pv 0) (pa_cons (pv 2) (pa_cons (pv 3) pa_nil))))))
        (pss_one (ps_ret (pe_lst (pa_cons (pe_gi T.c_NOT_AS_TOLD rfl) pa_nil))))
        pss_nil)
      (pss_one (ps_ret (pe_lst (pa_cons (pe_fn G_given_of_any hr (by decide) rfl (pa_cons (pe_fld (pv 0) rfl) (pa_cons (pe_fn G_still_open hr (by decide) rfl (pa_cons (pe_fld (pv 0) rfl) (pa_cons (pv 2) (pa_cons (pv 3) pa_nil)))) pa_nil))) pa_nil))))))), ?_⟩
    have e0 : Kh412.doing (some a) (clN 13 [x, z]) = (some a, if Kh412.isX a x = false ∨ Kh412.isX a z = false ∨ Kh412.meet a.n x z ≠ 0 then Kh412.say (-22) else Kh412.say (Kh412.may a x z)) := rfl
    refine ⟨_, rfl, m, _, _, _, rfl, rfl, hS, rfl, ?_⟩
    refine ⟨_, rfl, m, _, _, _, rfl, rfl, hS, rfl, ?_⟩
    refine ⟨_, rfl, _, rfl, _, rfl, b, g, a, x, z, rfl, B, _, rfl, ?_⟩
    refine iteI (fun e1 => ?_) (fun e1 => ?_)
    · rw [Bool.not_eq_true'] at e1
      rw [e0, if_pos (known_f ga e1)] at k
      exact ⟨by show 1 ≤ sizeLine; decide, fun p hp => k.say B hp⟩
    · rw [Bool.not_eq_false'] at e1
      obtain ⟨⟨hx, hzz, hm⟩, c⟩ := known_t ga e1
      rw [e0, if_neg c, may_is ga hx hzz] at k
      refine ⟨_, rfl, b, C, dx, _, _, rfl, hb, T.cl, T.n_given, bk_given _ _, _, rfl, b, C, dx, _, _, rfl, hb, T.cl, T.n_given, bk_given _ _, _, rfl, _, rfl, g, a.f, x, z, rfl, SqL.of B.lst, h16, fun H1 q s1 hq h1 => ?_⟩
      refine ⟨g, q, a.f, openL a.f.length x z, rfl, SqL.of (s1 _ _ B.lst), SqL.of h1, fun y hy => open_lt hy, by show 1 ≤ sizeLine; decide, fun p hp => k.look B (s1.trans (Same.new hp)) (s1.free hp) ?_⟩
      rw [upd_same, hlen]
      rfl
theorem sc_call_waits : FnScope ["book", "numbers", "x", "o"] ["book", "numbers"] (defScope s_call_waits) := ⟨rfl, rfl, rfl, by decide +kernel, rfl, by decide +kernel, by decide +kernel⟩
theorem ok_call_waits {f f1 : Addr} (D : Dn K mg "call_waits" s_call_waits f ["book", "numbers"]) (T : Txt K mg C) (M_has_answer : Met P w K mg base 1 C "has_answer" (spHasAnswer C)) (M_has_inputs : Met P w K mg base 1 C "has_inputs" (spHasInputs C)) (G_fewest_sealed : Fn P w K mg base 3 "fewest_sealed" f1 (spFewest K)) :
    Fn P w K mg base 4 "call_waits" f (spDo K C 14) := by
  refine D.fn sc_call_waits (fun vs H Q E h => ?_) (fun cdv A outer s H vs Q E hr h => ?_)
  · obtain ⟨b, g, m, z, ms, rfl, _⟩ := h
    rfl
  · obtain ⟨b, g, m, z, ms, rfl, B, hz, hS, hn, k⟩ := h
    obtain ⟨x, o, rfl⟩ := two hn
    obtain ⟨a, rfl⟩ := begun hz (by decide)
    obtain ⟨dx, hb⟩ := B.obj
    have ga := B.ok a rfl
    have hlen : a.f.length = 2 ^ a.n := ga.len
    have h16 : a.f.length ≤ 16 := len16 ⟨a.n, ga.n4, ga.len⟩
    refine ⟨_, (pss_cons (ps_set (i := 2) sc_call_waits.nd rfl (Or.inl rfl) (pe_ix ix_list (pv 1) pe_int (fun _ _ => rfl)))
      (pss_cons (ps_set (i := 3) sc_call_waits.nd rfl (Or.inl rfl) (pe_ix ix_list (pv 1) pe_int (fun _ _ => rfl)))
      (pss_cons (ps_if (pt_not (pt_val (pe_met M_has_answer hr (by decide) (pv 0) (pa_cons (pv 3) pa_nil))))
        (pss_one (ps_ret (pe_lst (pa_cons (pe_gi T.c_NO_SUCH_ANSWER rfl) pa_nil))))
        pss_nil)
      (pss_cons (ps_if (pt_not (pt_val (pe_met M_has_inputs hr (by decide) (pv 0) (pa_cons (pv 2) pa_nil))))
        (pss_one (ps_ret (pe_lst (pa_cons (pe_gi T.c_NOT_AS_TOLD rfl) pa_nil))))
        pss_nil)
      (pss_cons (ps_if (pt_cmpR op_eq (pe_op op_and (pe_ix ix_list (pe_fld (pv 0) rfl) (pv 2) (fun _ _ => rfl)) (pe_op op_shl pe_int (pv 3))) pe_int (nomark _))
        (pss_one (ps_ret (pe_lst (pa_cons (pe_gi T.c_NOTHING_TO_SHOW rfl) pa_nil))))
        pss_nil)
      (pss_one (ps_ret (pe_fn G_fewest_sealed hr (by decide) rfl (pa_cons (pe_fld (pv 0) rfl) (pa_cons (pv 2) (pa_cons (pv 3) pa_nil))))))))))), ?_⟩
    have e0 : Kh412.doing (some a) (clN 14 [x, o]) = (some a, if a.k ≤ o then Kh412.say (-2) else if Kh412.isX a x = false then Kh412.say (-22) else match Kh412.waits a x o with
      | none => Kh412.say (-33)
      | some z => Kh412.nats (Kh412.size a.n z) [z]) := rfl
    refine ⟨_, rfl, m, _, _, _, rfl, rfl, hS, rfl, ?_⟩
    refine ⟨_, rfl, m, _, _, _, rfl, rfl, hS, rfl, ?_⟩
    refine ⟨_, rfl, b, dx, _, rfl, hb, bk_no _ _ (by decide +kernel) (by decide +kernel), _, rfl, b, g, _, o, rfl, B, _, rfl, ?_⟩
    refine iteI (fun e1 => ?_) (fun e1 => ?_)
    · rw [Bool.not_eq_true'] at e1
      have h1 : ¬ o < a.k := of_decide_eq_false e1
      rw [e0, if_pos (by omega)] at k
      exact ⟨by show 1 ≤ sizeLine; decide, fun p hp => k.say B hp⟩
    rw [Bool.not_eq_false'] at e1
    have ho : o < a.k := of_decide_eq_true e1
    have h3 : o < 3 := Nat.lt_of_lt_of_le ho ga.k3
    rw [e0, if_neg (by omega)] at k
    refine ⟨_, rfl, b, dx, _, rfl, hb, bk_no _ _ (by decide +kernel) (by decide +kernel), _, rfl, b, g, _, x, rfl, B, _, rfl, ?_⟩
    rw [show (giv (some a)).length = 2 ^ a.n from ga.len]
    refine iteI (fun e2 => ?_) (fun e2 => ?_)
    · rw [Bool.not_eq_true'] at e2
      rw [if_pos (isX_f e2)] at k
      exact ⟨by show 1 ≤ sizeLine; decide, fun p hp => k.say B hp⟩
    rw [Bool.not_eq_false'] at e2
    have hx : x < 2 ^ a.n := of_decide_eq_true e2
    rw [if_neg (isX_t e2)] at k
    refine ⟨_, rfl, b, C, dx, _, _, rfl, hb, T.cl, T.n_given, bk_given _ _, _, rfl, g, _, _, _, rfl, rfl, SqL.of B.lst, iv_at rfl (show x < a.f.length by rw [hlen]; exact hx), _, rfl, _, _, rfl, rfl, ⟨by omega, by omega, by decide⟩, _, _, rfl, rfl, rfl, _, rfl, ?_⟩
    rw [int_eq, shl_one, and_nat]
    rw [show decide ((((giv (some a)).getD x 0 &&& 2 ^ o : Nat) : Int) = 0) = decide (a.f.getD x 0 &&& 2 ^ o = 0) from by rw [decide_eq_decide]; show ((a.f.getD x 0 &&& 2 ^ o : Nat) : Int) = 0 ↔ _; omega]
    refine iteI (fun e3 => ?_) (fun e3 => ?_)
    · rw [waits_none ga hx ho (of_decide_eq_true e3)] at k
      exact ⟨by show 1 ≤ sizeLine; decide, fun p hp => k.say B hp⟩
    · obtain ⟨z, hzz, c1, c2⟩ := waits_some ga hx ho (of_decide_eq_false e3)
      rw [c2] at k
      refine ⟨_, rfl, b, C, dx, _, _, rfl, hb, T.cl, T.n_given, bk_given _ _, _, rfl, _, rfl, g, a.f, x, o, rfl, SqL.of B.lst, h16, h3, by rw [hlen]; exact hx, fun H1 p s1 hp h1 => k.look B s1 hp ?_⟩
      rw [h1, c1, ← pop_all a.n (n5 ga) z hzz]
      rfl
theorem sc_call_worst : FnScope ["book", "numbers", "x"] ["book", "numbers"] (defScope s_call_worst) := ⟨rfl, rfl, rfl, by decide +kernel, rfl, by decide +kernel, by decide +kernel⟩
theorem ok_call_worst {f f1 f2 : Addr} (D : Dn K mg "call_worst" s_call_worst f ["book", "numbers"]) (T : Txt K mg C) (M_has_inputs : Met P w K mg base 1 C "has_inputs" (spHasInputs C)) (G_given_of_any : Fn P w K mg base 1 "given_of_any" f1 (spAny K)) (G_parts_of : Fn P w K mg base 2 "parts_of" f2 (spParts)) :
    Fn P w K mg base 3 "call_worst" f (spDo K C 17) := by
  refine D.fn sc_call_worst (fun vs H Q E h => ?_) (fun cdv A outer s H vs Q E hr h => ?_)
  · obtain ⟨b, g, m, z, ms, rfl, _⟩ := h
    rfl
  · obtain ⟨b, g, m, z, ms, rfl, B, hz, hS, hn, k⟩ := h
    obtain ⟨x, rfl⟩ := one hn
    obtain ⟨a, rfl⟩ := begun hz (by decide)
    obtain ⟨dx, hb⟩ := B.obj
    have ga := B.ok a rfl
    have hlen : a.f.length = 2 ^ a.n := ga.len
    have h16 : a.f.length ≤ 16 := len16 ⟨a.n, ga.n4, ga.len⟩
    refine ⟨_, (pss_cons (ps_set (i := 2) sc_call_worst.nd rfl (Or.inl rfl) (pe_ix ix_list (pv 1) pe_int (fun _ _ => rfl)))
      (pss_cons (ps_if (pt_not (pt_val (pe_met M_has_inputs hr (by decide) (pv 0) (pa_cons (pv 2) pa_nil))))
        (pss_one (ps_ret (pe_lst (pa_cons (pe_gi T.c_NOT_AS_TOLD rfl) pa_nil))))
        pss_nil)
      (pss_one (ps_ret (pe_lst (pa_cons (pe_op op_and (pe_fn G_given_of_any hr (by decide) rfl (pa_cons (pe_fld (pv 0) rfl) (pa_cons (pe_fn G_parts_of hr (by decide) rfl (pa_cons (pv 2) pa_nil)) pa_nil))) (pe_un un_inv (pe_ix ix_list (pe_fld (pv 0) rfl) (pv 2) (fun _ _ => rfl)))) pa_nil)))))), ?_⟩
    have e0 : Kh412.doing (some a) (clN 17 [x]) = (some a, if Kh412.isX a x = false then Kh412.say (-22) else Kh412.say (Kh412.everWrong a x)) := rfl
    refine ⟨_, rfl, m, _, _, _, rfl, rfl, hS, rfl, ?_⟩
    refine ⟨_, rfl, b, dx, _, rfl, hb, bk_no _ _ (by decide +kernel) (by decide +kernel), _, rfl, b, g, _, x, rfl, B, _, rfl, ?_⟩
    rw [show (giv (some a)).length = 2 ^ a.n from ga.len]
    refine iteI (fun e2 => ?_) (fun e2 => ?_)
    · rw [Bool.not_eq_true'] at e2
      rw [e0, if_pos (isX_f e2)] at k
      exact ⟨by show 1 ≤ sizeLine; decide, fun p hp => k.say B hp⟩
    rw [Bool.not_eq_false'] at e2
    have hx : x < 2 ^ a.n := of_decide_eq_true e2
    have hx2 : x < a.f.length := by rw [hlen]; exact hx
    rw [e0, if_neg (isX_t e2), worst_is ga hx] at k
    refine ⟨_, rfl, b, C, dx, _, _, rfl, hb, T.cl, T.n_given, bk_given _ _, _, rfl, x, rfl, by omega, fun H1 q s1 hq h1 => ?_⟩
    have hb1 := s1 _ _ hb
    refine ⟨g, q, a.f, partsL x, rfl, SqL.of (s1 _ _ B.lst), SqL.of h1, fun y hy => Nat.lt_of_le_of_lt (parts_le hy) hx2, _, rfl, b, C, dx, _, _, rfl, hb1, T.cl, T.n_given, bk_given _ _, _, rfl, g, _, _, _, rfl, rfl, SqL.of (s1 _ _ B.lst), iv_at rfl hx2, _, rfl, _, _, rfl, rfl, by show 1 ≤ sizeLine; decide, fun p hp => k.look B (s1.trans (Same.new hp)) (s1.free hp) ?_⟩
    rw [upd_same]
    show some (HO.lst [V.int (Builtin.bitAnd ((anyL a.f (partsL x) : Nat) : Int) (Builtin.bitNot ((a.f.getD x 0 : Nat) : Int)))]) = _
    rw [less_nat]
    rfl
end
end Ga

set_option Elab.async false
set_option linter.all false
set_option maxRecDepth 100000
set_option maxHeartbeats 2000000
namespace Ga
open PySem PySem.Spec PyProof.Rows L2
abbrev s_call_told : Stmt := top 46
abbrev n_call_told : List Str := ["book", "row", "steps", "x"]
abbrev s_call_wrong : Stmt := top 47
abbrev n_call_wrong : List Str := ["book", "row", "steps"]
abbrev s_call_apart : Stmt := top 49
abbrev n_call_apart : List Str := ["book", "row", "together", "x", "apart", "whole"]
theorem last_step (l : List Nat) : atI (iv (stepsL l)) (-1) = some (.int ((orAt l l.length : Nat) : Int)) := by
  unfold stepsL
  rw [map_range, iv_app]
  exact atI_last _ _
theorem order_t {a : Kh412.Abs} {l : List Nat} (h : Kh412.okOrder a l = true) : (∀ i, i ∈ l → i < a.n) ∧ l.Nodup := by
  unfold Kh412.okOrder at h
  rw [Bool.and_eq_true, List.all_eq_true, decide_eq_true_eq] at h
  exact ⟨fun i hi => of_decide_eq_true (h.1 i hi), h.2⟩
theorem any_allX (l : List Nat) (a : Kh412.Abs) : (l.any fun v => Kh412.isX a v == false) = !(l.all fun v => decide (v < 2 ^ a.n)) := by
  induction l with
  | nil => rfl
  | cons v l ih =>
    rw [List.any_cons, List.all_cons, ih]
    unfold Kh412.isX
    cases decide (v < 2 ^ a.n) <;> cases (l.all fun v => decide (v < 2 ^ a.n)) <;> rfl
section
variable {P : Program} {w : World} {K : PySem.W.Frag} {mg : Str → Option Value} {base : Heap} {C : Addr}
theorem sc_call_told : FnScope ["book", "row", "steps", "x"] ["book", "row"] (defScope s_call_told) := ⟨rfl, rfl, rfl, by decide +kernel, rfl, by decide +kernel, by decide +kernel⟩
theorem ok_call_told {f f1 f2 : Addr} (D : Dn K mg "call_told" s_call_told f ["book", "row"]) (T : Txt K mg C) (G_is_order : Fn P w K mg base 3 "is_order" f1 (spIsOrder K C)) (G_steps_of : Fn P w K mg base 1 "steps_of" f2 (spSteps K)) :
    Fn P w K mg base 4 "call_told" f (spDo K C 15) := by
  refine D.fn sc_call_told (fun vs H Q E h => ?_) (fun cdv A outer s H vs Q E hr h => ?_)
  · obtain ⟨b, g, m, z, ms, rfl, _⟩ := h
    rfl
  · obtain ⟨b, g, m, z, ms, rfl, B, hz, hS, hn, k⟩ := h
    obtain ⟨a, rfl⟩ := begun hz (by decide)
    obtain ⟨dx, hb⟩ := B.obj
    have ga := B.ok a rfl
    have hlen : a.f.length = 2 ^ a.n := ga.len
    have h16 : a.f.length ≤ 16 := len16 ⟨a.n, ga.n4, ga.len⟩
    refine ⟨_, (pss_cons (ps_if (pt_not (pt_val (pe_fn G_is_order hr (by decide) rfl (pa_cons (pv 0) (pa_cons (pv 1) pa_nil)))))
        (pss_one (ps_ret (pe_lst (pa_cons (pe_gi T.c_NOT_AS_TOLD rfl) pa_nil))))
        pss_nil)
      (pss_cons (ps_set (i := 2) sc_call_told.nd rfl (Or.inl rfl) (pe_fn G_steps_of hr (by decide) rfl (pa_cons (pv 1) pa_nil)))
      (pss_one (ps_ret (pe_op op_cat (pe_lst (pa_cons (pe_callB call_len_seq (by rfl) T.b_len PySem.boot_len (pa_cons (pv 2) pa_nil)) pa_nil)) (pe_lc (own := [("x", 3)]) (g := gName 3) (te := tOp (rIxL K) (tFld K (tVar 0) "given") (tVar 3)) rfl sc_call_told.nd (pi_list (pv 2)) (blkOk_by (N := n_call_told) (sc := defScope s_call_told) (by decide +kernel)) (fun _ _ _ _ _ => pg_name (i := 3) sc_call_told.nd rfl (Or.inl rfl)) (fun _ _ _ _ _ => pts_nil) (fun _ _ _ _ _ => (pe_ix ix_list (pe_fld (pv 0) rfl) (pv 3) (fun _ _ => rfl))))))))), ?_⟩
    have hn : ms.length ≤ 4 := hn
    have e0 : Kh412.doing (some a) (clN 15 ms) = (some a, if Kh412.okOrder a ms = false then Kh412.say (-22) else Kh412.nats (ms.length + 1) ((Kh412.steps ms).map (Kh412.at_ a))) := rfl
    refine ⟨_, rfl, _, rfl, b, g, m, a, ms, rfl, B, hS, Nat.le_trans hn (by decide), fun H1 s1 => ⟨_, rfl, ?_⟩⟩
    refine iteI (fun e1 => ?_) (fun e1 => ?_)
    · rw [Bool.not_eq_true'] at e1
      rw [e0, if_pos e1] at k
      exact ⟨by show 1 ≤ sizeLine; decide, fun p hp => k.look B (s1.trans (Same.new hp)) (s1.free hp) upd_same⟩
    rw [Bool.not_eq_false'] at e1
    obtain ⟨hv, hnd⟩ := order_t e1
    have hst : Kh412.steps ms = stepsL ms := steps_is hn (fun i hi => Nat.lt_of_lt_of_le (hv i hi) ga.n4) hnd
    have hsl : ∀ y, y ∈ stepsL ms → y < a.f.length := fun y hy => by rw [hlen]; exact steps_lt hv hy
    refine ⟨_, rfl, m, ms, rfl, s1.seq hS, hn, fun i hi => Nat.lt_of_lt_of_le (hv i hi) ga.n4, fun H2 p s2 hp hq => ?_⟩
    have s3 := s1.trans s2
    have hb2 := s3 _ _ hb
    have hg2 := s3 _ _ B.lst
    rw [e0, if_neg (by rw [e1]; intro q; cases q), hst] at k
    refine ⟨_, rfl, p, _, rfl, .inl (SqL.of hq), by show 1 ≤ sizeLine; decide, fun r hr1 => ?_⟩
    generalize hh : upd H2 r (.lst [.int (((iv (stepsL ms)).length : Nat) : Int)]) = H3
    have s4 : Same H2 H3 := by rw [← hh]; exact Same.new hr1
    have hr3 : H3 r = some (.lst [.int (((iv (stepsL ms)).length : Nat) : Int)]) := by rw [← hh]; exact upd_same
    refine ⟨_, rfl, p, rfl, ⟨_, SqL.of (s4 _ _ hq)⟩, fun t ht => ?_⟩
    refine lc_list (K := K) (a := p) (xs := iv (stepsL ms)) (fun i H' => Same H3 H' ∧ H' t = some (.lst (iv (((stepsL ms).take i).map fun x => a.f.getD x 0)))) ⟨Same.new ht, upd_same⟩ (fun i H' _ q => SqL.of (q.1 _ _ (s4 _ _ hq))) ?_ ?_
    · rintro i y H' hi ⟨s5, hq5⟩
      obtain ⟨v, hv1, rfl⟩ := iv_some hi
      have hb5 := s5 _ _ (s4 _ _ hb2)
      refine ⟨rfl, ?_⟩
      refine ⟨_, rfl, b, C, dx, _, _, rfl, hb5, T.cl, T.n_given, bk_given _ _, _, rfl, g, _, _, _, rfl, rfl, SqL.of (s5 _ _ (s4 _ _ hg2)), iv_at rfl (hsl v (List.mem_of_getElem? hv1)), _, hq5, ?_, fun c o e => ?_, ?_⟩
      · rw [iv_len, List.length_map]
        refine Nat.lt_of_le_of_lt (List.length_take_le _ _) ?_
        have h9 := (List.getElem?_eq_some_iff.mp hv1).1
        rw [steps_len] at h9
        exact Nat.lt_of_lt_of_le (by omega : i < 5) (by decide)
      · rw [upd_ne (ne_of_none e ht)]
        exact s5 c o e
      · rw [upd_same, take_snoc hv1, List.map_append, iv_app]
        rfl
    · rintro H' ⟨s5, hq5⟩
      rw [iv_len, List.take_length] at hq5
      refine ⟨r, t, _, _, rfl, rfl, s5 _ _ hr3, hq5, ?_, fun u hu => ?_⟩
      · show 1 + (iv ((stepsL ms).map fun x => a.f.getD x 0)).length ≤ sizeLine
        rw [iv_len, List.length_map, steps_len]
        exact Nat.le_trans (by omega : 1 + (ms.length + 1) ≤ 6) (by decide)
      · have s6 := (s3.trans s4).trans s5
        refine k.look B (s6.trans (Same.new hu)) (s6.free hu) ?_
        rw [upd_same, nats_iv, iv_len, steps_len]
        rfl
theorem sc_call_wrong : FnScope ["book", "row", "steps"] ["book", "row"] (defScope s_call_wrong) := ⟨rfl, rfl, rfl, by decide +kernel, rfl, by decide +kernel, by decide +kernel⟩
theorem ok_call_wrong {f f1 f2 f3 : Addr} (D : Dn K mg "call_wrong" s_call_wrong f ["book", "row"]) (T : Txt K mg C) (G_is_order : Fn P w K mg base 3 "is_order" f1 (spIsOrder K C)) (G_steps_of : Fn P w K mg base 1 "steps_of" f2 (spSteps K)) (G_given_of_any : Fn P w K mg base 1 "given_of_any" f3 (spAny K)) :
    Fn P w K mg base 4 "call_wrong" f (spDo K C 16) := by
  refine D.fn sc_call_wrong (fun vs H Q E h => ?_) (fun cdv A outer s H vs Q E hr h => ?_)
  · obtain ⟨b, g, m, z, ms, rfl, _⟩ := h
    rfl
  · obtain ⟨b, g, m, z, ms, rfl, B, hz, hS, hn, k⟩ := h
    obtain ⟨a, rfl⟩ := begun hz (by decide)
    obtain ⟨dx, hb⟩ := B.obj
    have ga := B.ok a rfl
    have hlen : a.f.length = 2 ^ a.n := ga.len
    have h16 : a.f.length ≤ 16 := len16 ⟨a.n, ga.n4, ga.len⟩
    refine ⟨_, (pss_cons (ps_if (pt_not (pt_val (pe_fn G_is_order hr (by decide) rfl (pa_cons (pv 0) (pa_cons (pv 1) pa_nil)))))
        (pss_one (ps_ret (pe_lst (pa_cons (pe_gi T.c_NOT_AS_TOLD rfl) pa_nil))))
        pss_nil)
      (pss_cons (ps_set (i := 2) sc_call_wrong.nd rfl (Or.inl rfl) (pe_fn G_steps_of hr (by decide) rfl (pa_cons (pv 1) pa_nil)))
      (pss_one (ps_ret (pe_lst (pa_cons (pe_op op_and (pe_fn G_given_of_any hr (by decide) rfl (pa_cons (pe_fld (pv 0) rfl) (pa_cons (pv 2) pa_nil))) (pe_un un_inv (pe_ix ix_list (pe_fld (pv 0) rfl) (pe_ix ix_list (pv 2) (pe_un un_neg pe_int) (fun _ _ => rfl)) (fun _ _ => rfl)))) pa_nil)))))), ?_⟩
    have hn : ms.length ≤ 4 := hn
    have e0 : Kh412.doing (some a) (clN 16 ms) = (some a, if Kh412.okOrder a ms = false then Kh412.say (-22) else Kh412.say (Kh412.wrong a ms)) := rfl
    refine ⟨_, rfl, _, rfl, b, g, m, a, ms, rfl, B, hS, Nat.le_trans hn (by decide), fun H1 s1 => ⟨_, rfl, ?_⟩⟩
    refine iteI (fun e1 => ?_) (fun e1 => ?_)
    · rw [Bool.not_eq_true'] at e1
      rw [e0, if_pos e1] at k
      exact ⟨by show 1 ≤ sizeLine; decide, fun p hp => k.look B (s1.trans (Same.new hp)) (s1.free hp) upd_same⟩
    rw [Bool.not_eq_false'] at e1
    obtain ⟨hv, hnd⟩ := order_t e1
    have hst : Kh412.steps ms = stepsL ms := steps_is hn (fun i hi => Nat.lt_of_lt_of_le (hv i hi) ga.n4) hnd
    have hsl : ∀ y, y ∈ stepsL ms → y < a.f.length := fun y hy => by rw [hlen]; exact steps_lt hv hy
    refine ⟨_, rfl, m, ms, rfl, s1.seq hS, hn, fun i hi => Nat.lt_of_lt_of_le (hv i hi) ga.n4, fun H2 p s2 hp hq => ?_⟩
    have s3 := s1.trans s2
    have hb2 := s3 _ _ hb
    have hg2 := s3 _ _ B.lst
    rw [e0, if_neg (by rw [e1]; intro q; cases q), wrong_is ga hst] at k
    have hlast : orAt ms ms.length < a.f.length := by rw [hlen]; exact orAt_lt hv
    refine ⟨_, rfl, b, C, dx, _, _, rfl, hb2, T.cl, T.n_given, bk_given _ _, _, rfl, g, p, a.f, stepsL ms, rfl, SqL.of hg2, SqL.of hq, hsl, _, rfl, b, C, dx, _, _, rfl, hb2, T.cl, T.n_given, bk_given _ _, _, rfl, _, rfl, p, _, _, _, rfl, rfl, SqL.of hq, last_step ms, g, _, _, _, rfl, rfl, SqL.of hg2, iv_at rfl hlast, _, rfl, _, _, rfl, rfl, by show 1 ≤ sizeLine; decide, fun r hr1 => k.look B (s3.trans (Same.new hr1)) (s3.free hr1) ?_⟩
    rw [upd_same]
    show some (HO.lst [V.int (Builtin.bitAnd ((anyL a.f (stepsL ms) : Nat) : Int) (Builtin.bitNot ((a.f.getD (orAt ms ms.length) 0 : Nat) : Int)))]) = _
    rw [less_nat]
    rfl
theorem sc_call_apart : FnScope ["book", "row", "together", "x", "apart", "whole"] ["book", "row"] (defScope s_call_apart) := ⟨rfl, rfl, rfl, by decide +kernel, rfl, by decide +kernel, by decide +kernel⟩
theorem ok_call_apart {f f1 : Addr} (D : Dn K mg "call_apart" s_call_apart f ["book", "row"]) (T : Txt K mg C) (M_has_inputs : Met P w K mg base 1 C "has_inputs" (spHasInputs C)) (G_given_of_any : Fn P w K mg base 1 "given_of_any" f1 (spAny K)) :
    Fn P w K mg base 2 "call_apart" f (spDo K C 18) := by
  refine D.fn sc_call_apart (fun vs H Q E h => ?_) (fun cdv A outer s H vs Q E hr h => ?_)
  · obtain ⟨b, g, m, z, ms, rfl, _⟩ := h
    rfl
  · obtain ⟨b, g, m, z, ms, rfl, B, hz, hS, hn, k⟩ := h
    obtain ⟨a, rfl⟩ := begun hz (by decide)
    obtain ⟨dx, hb⟩ := B.obj
    have ga := B.ok a rfl
    have hlen : a.f.length = 2 ^ a.n := ga.len
    have h16 : a.f.length ≤ 16 := len16 ⟨a.n, ga.n4, ga.len⟩
    refine ⟨_, (pss_cons (ps_if (PW.pt (pw_or (pt_cmpR (op_eqD hr.units) (pv 1) (pe_lst pa_nil) (nomark _)) (pw_or1 (pt_not (pt_val (pe_callB (cr_all rfl) (by rfl) T.b_all (by decide +kernel) (pa_cons (pe_lc (own := [("x", 3)]) (g := gName 3) rfl sc_call_apart.nd (pi_list (pv 1)) (blkOk_by (N := n_call_apart) (sc := defScope s_call_apart) (by decide +kernel)) (fun _ _ _ _ _ => pg_name (i := 3) sc_call_apart.nd rfl (Or.inl rfl)) (fun _ _ _ _ _ => pts_nil) (fun _ _ _ _ _ => (pe_met M_has_inputs hr (by decide) (pv 0) (pa_cons (pv 3) pa_nil)))) pa_nil)))))))
        (pss_one (ps_ret (pe_lst (pa_cons (pe_gi T.c_NOT_AS_TOLD rfl) pa_nil))))
        pss_nil)
      (pss_cons (ps_set (i := 2) sc_call_apart.nd rfl (Or.inl rfl) pe_int)
      (pss_cons (ps_for PassesOwn.never rfl (pi_list (pv 1)) (pg_name (i := 3) sc_call_apart.nd rfl (Or.inl rfl))
        (pss_one (ps_set (i := 2) sc_call_apart.nd rfl (Or.inl rfl) (pe_op op_or (pv 2) (pv 3)))))
      (pss_cons (ps_set (i := 4) sc_call_apart.nd rfl (Or.inl rfl) (pe_fn G_given_of_any hr (by decide) rfl (pa_cons (pe_fld (pv 0) rfl) (pa_cons (pv 1) pa_nil))))
      (pss_cons (ps_set (i := 5) sc_call_apart.nd rfl (Or.inl rfl) (pe_ix ix_list (pe_fld (pv 0) rfl) (pv 2) (fun _ _ => rfl)))
      (pss_one (ps_ret (pe_lst (pa_cons (pv 4) (pa_cons (pv 5) (pa_cons (pe_op op_and (pv 5) (pe_un un_inv (pv 4))) (pa_cons (pe_op op_and (pv 4) (pe_un un_inv (pv 5))) pa_nil)))))))))))), ?_⟩
    have hn : ms.length ≤ 4 := hn
    have e0 : Kh412.doing (some a) (clN 18 ms) = (some a, if ms.length = 0 ∨ ms.any (fun x => Kh412.isX a x == false) then Kh412.say (-22) else Kh412.nats (Kh412.apart a ms) [Kh412.whole a ms, Kh412.less a.k (Kh412.whole a ms) (Kh412.apart a ms), Kh412.less a.k (Kh412.apart a ms) (Kh412.whole a ms)]) := rfl
    refine ⟨_, rfl, Nat.zero_le _, fun u hu => ?_⟩
    have s1 : Same H (upd H u (.lst [])) := Same.new hu
    refine ⟨_, _, .lst (s1.seq hS) (iv_dp _), .lst (SqL.of upd_same) .nil, dv_sh _, dv_sh [], _, rfl, ?_⟩
    rw [eqD_nil]
    refine iteI (fun e1 => iteT ?_) (fun e1 => ?_)
    · have e2 : ms = [] := of_decide_eq_true e1
      rw [e0, if_pos (.inl (by rw [e2]; rfl))] at k
      exact ⟨by show 1 ≤ sizeLine; decide, fun p hp => k.look B (s1.trans (Same.new hp)) (s1.free hp) upd_same⟩
    have hne : ms ≠ [] := of_decide_eq_false e1
    refine ⟨_, rfl, m, rfl, ⟨_, s1.seq hS⟩, fun p hp => ?_⟩
    generalize hh : upd H u (.lst []) = H1 at s1 hp
    refine lc_list (K := K) (a := m) (xs := iv ms) (fun i H' => Same H1 H' ∧ H' p = some (.lst (((ms.take i).map fun v => decide (v < 2 ^ a.n)).map V.bl))) ⟨Same.new hp, upd_same⟩ (fun i H' _ q => q.1.seq (s1.seq hS)) ?_ ?_
    · rintro i y H' hi ⟨s2, hq⟩
      obtain ⟨v, hv, rfl⟩ := iv_some hi
      have B1 := B.mono (s1.trans s2)
      obtain ⟨dx, hb⟩ := B1.obj
      refine ⟨rfl, ?_⟩
      refine ⟨_, rfl, b, dx, _, rfl, hb, bk_no _ _ (by decide +kernel) (by decide +kernel), _, rfl, b, g, _, v, rfl, B1, _, hq, ?_, fun c o e => ?_, ?_⟩
      · rw [List.length_map, List.length_map]
        refine Nat.lt_of_le_of_lt (List.length_take_le _ _) ?_
        have := (List.getElem?_eq_some_iff.mp hv).1
        exact Nat.lt_of_lt_of_le this (Nat.le_trans hn (by decide))
      · rw [upd_ne (ne_of_none e hp)]
        exact s2 c o e
      · rw [upd_same, take_snoc hv, List.map_append, List.map_append, show (giv (some a)).length = 2 ^ a.n from ga.len]
        rfl
    rintro H2 ⟨s2, hq⟩
    rw [iv_len, List.take_length] at hq
    have s3 := s1.trans s2
    refine ⟨p, _, rfl, SqL.of hq, _, rfl, ?_⟩
    rw [List.all_map]
    rw [show ms.all (id ∘ fun v => decide (v < 2 ^ a.n)) = ms.all (fun v => decide (v < 2 ^ a.n)) from rfl]
    refine iteI (fun e2 => ?_) (fun e2 => ?_)
    · rw [e0, if_pos (.inr (by rw [any_allX]; exact e2))] at k
      exact ⟨by show 1 ≤ sizeLine; decide, fun p hp => k.look B (s3.trans (Same.new hp)) (s3.free hp) upd_same⟩
    rw [Bool.not_eq_false'] at e2
    have hv : ∀ x, x ∈ ms → x < 2 ^ a.n := fun x hx => of_decide_eq_true (List.all_eq_true.mp e2 x hx)
    rw [e0, if_neg (by
      rintro (q | q)
      · exact hne (List.eq_nil_of_length_eq_zero q)
      · rw [any_allX, e2] at q
        cases q)] at k
    have hb2 := s3 _ _ hb
    have hg2 := s3 _ _ B.lst
    have hm2 := s3.seq hS
    refine ⟨_, rfl, m, rfl, ⟨_, hm2⟩, ?_⟩
    refine for_list (K := K) (a := m) (xs := iv ms) (fun i σ H' => H2 = H' ∧ ∃ v3 v4 v5, σ = [some (.ref b), some (.ref m), some (.int (((ms.take i).foldl (fun s x => s ||| x) 0 : Nat) : Int)), v3, v4, v5]) ⟨rfl, _, _, _, rfl⟩ (fun i σ H' _ q => q.1 ▸ hm2) ?_ ?_
    · rintro i y σ H' hi ⟨rfl, v3, v4, v5, rfl⟩
      obtain ⟨v, hv1, rfl⟩ := iv_some hi
      refine ⟨_, rfl, _, rfl, _, _, rfl, rfl, rfl, some (.int (v : Int)), v4, v5, ?_⟩
      have e9 : (ms.take (i + 1)).foldl (fun s x => s ||| x) 0 = (ms.take i).foldl (fun s x => s ||| x) 0 ||| v := by
        rw [take_snoc hv1, List.foldl_append]
        rfl
      rw [e9, ← or_nat]
      rfl
    rintro σ H' ⟨rfl, v3, v4, v5, rfl⟩
    rw [iv_len, List.take_length]
    obtain ⟨t1, t2⟩ := together_is ga hv
    have t3 : orsL ms < a.f.length := by rw [hlen]; exact t2
    refine ⟨_, rfl, b, C, dx, _, _, rfl, hb2, T.cl, T.n_given, bk_given _ _, _, rfl, g, m, a.f, ms, rfl, SqL.of hg2, hm2, fun y hy => by rw [hlen]; exact hv y hy, ?_⟩
    refine ⟨_, rfl, b, C, dx, _, _, rfl, hb2, T.cl, T.n_given, bk_given _ _, _, rfl, g, _, _, _, rfl, rfl, SqL.of hg2, iv_at (i := orsL ms) rfl t3, ?_⟩
    refine ⟨_, rfl, _, rfl, _, rfl, _, rfl, _, rfl, _, _, rfl, rfl, _, rfl, _, rfl, _, rfl, _, _, rfl, rfl, by show 4 ≤ sizeLine; decide, fun r hr1 => k.look B (s3.trans (Same.new hr1)) (s3.free hr1) ?_⟩
    obtain ⟨p1, p2⟩ := apart_is ga ms
    rw [upd_same, nats_iv, whole_is ga hv, p1, lessK ga (at_lt ga _) p2, lessK ga p2 (at_lt ga _)]
    show some (HO.lst [V.int ((anyL a.f ms : Nat) : Int), V.int ((a.f.getD (orsL ms) 0 : Nat) : Int), V.int (Builtin.bitAnd ((a.f.getD (orsL ms) 0 : Nat) : Int) (Builtin.bitNot ((anyL a.f ms : Nat) : Int))), V.int (Builtin.bitAnd ((anyL a.f ms : Nat) : Int) (Builtin.bitNot ((a.f.getD (orsL ms) 0 : Nat) : Int)))]) = _
    rw [less_nat, less_nat]
    rfl
end
end Ga

set_option Elab.async false
set_option linter.all false
set_option maxRecDepth 100000
set_option maxHeartbeats 2000000
namespace Ga
open PySem PySem.Spec PyProof.Rows L2
abbrev s_call_least : Stmt := top 50
abbrev n_call_least : List Str := ["book", "numbers", "o", "found"]
abbrev s_call_up : Stmt := top 51
abbrev n_call_up : List Str := ["book", "numbers"]
abbrev s_call_down : Stmt := top 52
abbrev n_call_down : List Str := ["book", "numbers"]
abbrev s_call_grade : Stmt := top 53
abbrev n_call_grade : List Str := ["book", "numbers"]
abbrev s_call_state : Stmt := top 54
abbrev n_call_state : List Str := ["book", "numbers"]
section
variable {P : Program} {w : World} {K : PySem.W.Frag} {mg : Str → Option Value} {base : Heap} {C : Addr}
theorem sc_call_least : FnScope ["book", "numbers", "o", "found"] ["book", "numbers"] (defScope s_call_least) := ⟨rfl, rfl, rfl, by decide +kernel, rfl, by decide +kernel, by decide +kernel⟩
theorem ok_call_least {f f1 : Addr} (D : Dn K mg "call_least" s_call_least f ["book", "numbers"]) (T : Txt K mg C) (M_has_answer : Met P w K mg base 1 C "has_answer" (spHasAnswer C)) (G_least_sets : Fn P w K mg base 3 "least_sets" f1 (spLeast K)) :
    Fn P w K mg base 4 "call_least" f (spDo K C 19) := by
  refine D.fn sc_call_least (fun vs H Q E h => ?_) (fun cdv A outer s H vs Q E hr h => ?_)
  · obtain ⟨b, g, m, z, ms, rfl, _⟩ := h
    rfl
  · obtain ⟨b, g, m, z, ms, rfl, B, hz, hS, hn, k⟩ := h
    obtain ⟨o, rfl⟩ := one hn
    obtain ⟨a, rfl⟩ := begun hz (by decide)
    obtain ⟨dx, hb⟩ := B.obj
    have ga := B.ok a rfl
    have hlen : a.f.length = 2 ^ a.n := ga.len
    have h16 : a.f.length ≤ 16 := len16 ⟨a.n, ga.n4, ga.len⟩
    refine ⟨_, (pss_cons (ps_set (i := 2) sc_call_least.nd rfl (Or.inl rfl) (pe_ix ix_list (pv 1) pe_int (fun _ _ => rfl)))
      (pss_cons (ps_if (pt_not (pt_val (pe_met M_has_answer hr (by decide) (pv 0) (pa_cons (pv 2) pa_nil))))
        (pss_one (ps_ret (pe_lst (pa_cons (pe_gi T.c_NO_SUCH_ANSWER rfl) pa_nil))))
        pss_nil)
      (pss_cons (ps_set (i := 3) sc_call_least.nd rfl (Or.inl rfl) (pe_fn G_least_sets hr (by decide) rfl (pa_cons (pe_fld (pv 0) rfl) (pa_cons (pv 2) pa_nil))))
      (pss_one (ps_ret (pe_op op_cat (pe_lst (pa_cons (pe_callB call_len_seq (by rfl) T.b_len PySem.boot_len (pa_cons (pv 3) pa_nil)) pa_nil)) (pv 3))))))), ?_⟩
    have e0 : Kh412.doing (some a) (clN 19 [o]) = (some a, if a.k ≤ o then Kh412.say (-2) else Kh412.nats (Kh412.least a o).length (Kh412.least a o)) := rfl
    refine ⟨_, rfl, m, _, _, _, rfl, rfl, hS, rfl, ?_⟩
    refine ⟨_, rfl, b, dx, _, rfl, hb, bk_no _ _ (by decide +kernel) (by decide +kernel), _, rfl, b, g, _, o, rfl, B, _, rfl, ?_⟩
    refine iteI (fun e1 => ?_) (fun e1 => ?_)
    · rw [Bool.not_eq_true'] at e1
      have h1 : ¬ o < a.k := of_decide_eq_false e1
      rw [e0, if_pos (by omega)] at k
      exact ⟨by show 1 ≤ sizeLine; decide, fun p hp => k.say B hp⟩
    rw [Bool.not_eq_false'] at e1
    have ho : o < a.k := of_decide_eq_true e1
    have h3 : o < 3 := Nat.lt_of_lt_of_le ho ga.k3
    rw [e0, if_neg (by omega), least_is ga ho] at k
    refine ⟨_, rfl, b, C, dx, _, _, rfl, hb, T.cl, T.n_given, bk_given _ _, _, rfl, g, a.f, o, rfl, SqL.of B.lst, h16, h3, fun H1 p s1 hp hq => ?_⟩
    refine ⟨_, rfl, p, _, rfl, .inl (SqL.of hq), by show 1 ≤ sizeLine; decide, fun r hr1 => ?_⟩
    have s2 := Same.new (o := .lst [.int (((iv (leastL a.f o)).length : Nat) : Int)]) hr1
    have hl9 : (leastL a.f o).length ≤ 16 := by
      unfold leastL
      refine Nat.le_trans (List.length_filter_le _ _) ?_
      rw [List.length_range]
      exact h16
    refine ⟨_, rfl, r, p, _, _, rfl, rfl, upd_same, s2 _ _ hq, ?_, fun u hu => k.look B ((s1.trans s2).trans (Same.new hu)) ((s1.trans s2).free hu) ?_⟩
    · rw [iv_len]
      show 1 + (leastL a.f o).length ≤ sizeLine
      exact Nat.le_trans (by omega : 1 + (leastL a.f o).length ≤ 17) (by decide)
    · rw [upd_same, nats_iv, iv_len]
      rfl
theorem sc_call_up : FnScope ["book", "numbers"] ["book", "numbers"] (defScope s_call_up) := ⟨rfl, rfl, rfl, by decide +kernel, rfl, by decide +kernel, by decide +kernel⟩
theorem ok_call_up {f f1 : Addr} (D : Dn K mg "call_up" s_call_up f ["book", "numbers"]) (T : Txt K mg C) (G_table_above : Fn P w K mg base 3 "table_above" f1 (spNew K aboveL)) :
    Fn P w K mg base 4 "call_up" f (spDo K C 20) := by
  refine D.fn sc_call_up (fun vs H Q E h => ?_) (fun cdv A outer s H vs Q E hr h => ?_)
  · obtain ⟨b, g, m, z, ms, rfl, _⟩ := h
    rfl
  · obtain ⟨b, g, m, z, ms, rfl, B, hz, hS, hn, k⟩ := h
    obtain ⟨a, rfl⟩ := begun hz (by decide)
    obtain ⟨dx, hb⟩ := B.obj
    have ga := B.ok a rfl
    have hlen : a.f.length = 2 ^ a.n := ga.len
    have h16 : a.f.length ≤ 16 := len16 ⟨a.n, ga.n4, ga.len⟩
    refine ⟨_, (pss_one (ps_ret (pe_op op_cat (pe_lst (pa_cons (pe_callB call_len_seq (by rfl) T.b_len PySem.boot_len (pa_cons (pe_fld (pv 0) rfl) pa_nil)) pa_nil)) (pe_fn G_table_above hr (by decide) rfl (pa_cons (pe_fld (pv 0) rfl) pa_nil))))), ?_⟩
    have e0 : Kh412.doing (some a) (clN 20 ms) = (some a, Kh412.nats (2 ^ a.n) ((Kh412.inputs a).map (Kh412.up a))) := rfl
    rw [e0, ← aboveL_is ga] at k
    refine ⟨_, rfl, b, C, dx, _, _, rfl, hb, T.cl, T.n_given, bk_given _ _, g, _, rfl, .inl (SqL.of B.lst), by show 1 ≤ sizeLine; decide, fun r hr1 => ?_⟩
    have s1 := Same.new (o := .lst [.int (((iv (giv (some a))).length : Nat) : Int)]) hr1
    have hb1 := s1 _ _ hb
    refine ⟨_, rfl, b, C, dx, _, _, rfl, hb1, T.cl, T.n_given, bk_given _ _, g, a.f, rfl, SqL.of (s1 _ _ B.lst), ⟨a.n, ga.n4, ga.len⟩, fun H1 p s2 hp hq => ?_⟩
    have hl9 : (aboveL a.f).length = a.f.length := by
      unfold aboveL
      rw [List.length_map, List.length_range]
    refine ⟨r, p, _, _, rfl, rfl, s2 _ _ upd_same, hq, ?_, fun u hu => k.look B ((s1.trans s2).trans (Same.new hu)) ((s1.trans s2).free hu) ?_⟩
    · show 1 + (iv (aboveL a.f)).length ≤ sizeLine
      rw [iv_len, hl9]
      exact Nat.le_trans (by omega : 1 + a.f.length ≤ 17) (by decide)
    · rw [upd_same, nats_iv, iv_len, show (giv (some a)).length = 2 ^ a.n from ga.len]
      rfl
theorem sc_call_down : FnScope ["book", "numbers"] ["book", "numbers"] (defScope s_call_down) := ⟨rfl, rfl, rfl, by decide +kernel, rfl, by decide +kernel, by decide +kernel⟩
theorem ok_call_down {f f1 : Addr} (D : Dn K mg "call_down" s_call_down f ["book", "numbers"]) (T : Txt K mg C) (G_table_below : Fn P w K mg base 3 "table_below" f1 (spNew K belowL)) :
    Fn P w K mg base 4 "call_down" f (spDo K C 21) := by
  refine D.fn sc_call_down (fun vs H Q E h => ?_) (fun cdv A outer s H vs Q E hr h => ?_)
  · obtain ⟨b, g, m, z, ms, rfl, _⟩ := h
    rfl
  · obtain ⟨b, g, m, z, ms, rfl, B, hz, hS, hn, k⟩ := h
    obtain ⟨a, rfl⟩ := begun hz (by decide)
    obtain ⟨dx, hb⟩ := B.obj
    have ga := B.ok a rfl
    have hlen : a.f.length = 2 ^ a.n := ga.len
    have h16 : a.f.length ≤ 16 := len16 ⟨a.n, ga.n4, ga.len⟩
    refine ⟨_, (pss_one (ps_ret (pe_op op_cat (pe_lst (pa_cons (pe_callB call_len_seq (by rfl) T.b_len PySem.boot_len (pa_cons (pe_fld (pv 0) rfl) pa_nil)) pa_nil)) (pe_fn G_table_below hr (by decide) rfl (pa_cons (pe_fld (pv 0) rfl) pa_nil))))), ?_⟩
    have e0 : Kh412.doing (some a) (clN 21 ms) = (some a, Kh412.nats (2 ^ a.n) ((Kh412.inputs a).map (Kh412.down a))) := rfl
    rw [e0, ← belowL_is ga] at k
    refine ⟨_, rfl, b, C, dx, _, _, rfl, hb, T.cl, T.n_given, bk_given _ _, g, _, rfl, .inl (SqL.of B.lst), by show 1 ≤ sizeLine; decide, fun r hr1 => ?_⟩
    have s1 := Same.new (o := .lst [.int (((iv (giv (some a))).length : Nat) : Int)]) hr1
    have hb1 := s1 _ _ hb
    refine ⟨_, rfl, b, C, dx, _, _, rfl, hb1, T.cl, T.n_given, bk_given _ _, g, a.f, rfl, SqL.of (s1 _ _ B.lst), ⟨a.n, ga.n4, ga.len⟩, fun H1 p s2 hp hq => ?_⟩
    have hl9 : (belowL a.f).length = a.f.length := by
      unfold belowL
      rw [List.length_map, List.length_range]
    refine ⟨r, p, _, _, rfl, rfl, s2 _ _ upd_same, hq, ?_, fun u hu => k.look B ((s1.trans s2).trans (Same.new hu)) ((s1.trans s2).free hu) ?_⟩
    · show 1 + (iv (belowL a.f)).length ≤ sizeLine
      rw [iv_len, hl9]
      exact Nat.le_trans (by omega : 1 + a.f.length ≤ 17) (by decide)
    · rw [upd_same, nats_iv, iv_len, show (giv (some a)).length = 2 ^ a.n from ga.len]
      rfl
theorem sc_call_grade : FnScope ["book", "numbers"] ["book", "numbers"] (defScope s_call_grade) := ⟨rfl, rfl, rfl, by decide +kernel, rfl, by decide +kernel, by decide +kernel⟩
theorem ok_call_grade {f f1 f2 : Addr} (D : Dn K mg "call_grade" s_call_grade f ["book", "numbers"]) (T : Txt K mg C) (G_first_surplus : Fn P w K mg base 1 "first_surplus" f1 (spNew K surplusL)) (G_first_loss : Fn P w K mg base 2 "first_loss" f2 (spNew K lossL)) :
    Fn P w K mg base 3 "call_grade" f (spDo K C 22) := by
  refine D.fn sc_call_grade (fun vs H Q E h => ?_) (fun cdv A outer s H vs Q E hr h => ?_)
  · obtain ⟨b, g, m, z, ms, rfl, _⟩ := h
    rfl
  · obtain ⟨b, g, m, z, ms, rfl, B, hz, hS, hn, k⟩ := h
    obtain ⟨a, rfl⟩ := begun hz (by decide)
    obtain ⟨dx, hb⟩ := B.obj
    have ga := B.ok a rfl
    have hlen : a.f.length = 2 ^ a.n := ga.len
    have h16 : a.f.length ≤ 16 := len16 ⟨a.n, ga.n4, ga.len⟩
    refine ⟨_, (pss_cons (ps_if (pt_cmpR (op_eqD hr.units) (pe_fn G_first_surplus hr (by decide) rfl (pa_cons (pe_fld (pv 0) rfl) pa_nil)) (pe_lst pa_nil) (nomark _))
        (pss_one (ps_ret (pe_lst (pa_cons pe_int pa_nil))))
        pss_nil)
      (pss_one (ps_ret (pe_ifExp (pt_cmpR (op_eqD hr.units) (pe_fn G_first_loss hr (by decide) rfl (pa_cons (pe_fld (pv 0) rfl) pa_nil)) (pe_lst pa_nil) (nomark _)) (pe_lst (pa_cons pe_int pa_nil)) (pe_lst (pa_cons pe_int pa_nil)))))), ?_⟩
    have e0 : Kh412.doing (some a) (clN 22 ms) = (some a, Kh412.say (if Kh412.adds a then 0 else if Kh412.grows a then 1 else 2)) := rfl
    have e1 : Kh412.grows a = decide (lossL a.f = []) := by
      rw [grows_is ga, Bool.eq_iff_iff, decide_eq_true_eq]
      exact (lossL_empty a.f).symm
    have e2 : Kh412.adds a = decide (surplusL a.f = []) := by
      rw [adds_is ga, Bool.eq_iff_iff, decide_eq_true_eq]
      exact (surplusL_empty a.f).symm
    rw [e0, e1, e2] at k
    refine ⟨_, rfl, b, C, dx, _, _, rfl, hb, T.cl, T.n_given, bk_given _ _, g, a.f, rfl, SqL.of B.lst, ⟨a.n, ga.n4, ga.len⟩, fun H1 p s1 hp hq => ⟨Nat.zero_le _, fun t ht => ?_⟩⟩
    have s2 := s1.trans (Same.new (o := .lst []) ht)
    refine ⟨_, _, .lst (SqL.of ((Same.new ht) _ _ hq)) (iv_dp _), .lst (SqL.of upd_same) .nil, dv_sh _, dv_sh [], _, rfl, ?_⟩
    rw [eqD_nil]
    refine iteI (fun c1 => ?_) (fun c1 => ?_)
    · rw [c1] at k
      exact ⟨by show 1 ≤ sizeLine; decide, fun r hr1 => k.look B (s2.trans (Same.new hr1)) (s2.free hr1) upd_same⟩
    rw [c1] at k
    generalize hh : upd H1 t (.lst []) = H2 at s2
    have hb2 := s2 _ _ hb
    refine ⟨_, rfl, b, C, dx, _, _, rfl, hb2, T.cl, T.n_given, bk_given _ _, g, a.f, rfl, SqL.of (s2 _ _ B.lst), ⟨a.n, ga.n4, ga.len⟩, fun H3 p3 s3 hp3 hq3 => ⟨Nat.zero_le _, fun t3 ht3 => ?_⟩⟩
    have s4 := (s2.trans s3).trans (Same.new (o := .lst []) ht3)
    refine ⟨_, _, .lst (SqL.of ((Same.new ht3) _ _ hq3)) (iv_dp _), .lst (SqL.of upd_same) .nil, dv_sh _, dv_sh [], _, rfl, ?_⟩
    rw [eqD_nil]
    refine iteI (fun c2 => ?_) (fun c2 => ?_)
    · rw [c2] at k
      exact ⟨by show 1 ≤ sizeLine; decide, fun r hr1 => k.look B (s4.trans (Same.new hr1)) (s4.free hr1) upd_same⟩
    · rw [c2] at k
      exact ⟨by show 1 ≤ sizeLine; decide, fun r hr1 => k.look B (s4.trans (Same.new hr1)) (s4.free hr1) upd_same⟩
theorem sc_call_state : FnScope ["book", "numbers"] ["book", "numbers"] (defScope s_call_state) := ⟨rfl, rfl, rfl, by decide +kernel, rfl, by decide +kernel, by decide +kernel⟩
theorem ok_call_state {f  : Addr} (D : Dn K mg "call_state" s_call_state f ["book", "numbers"]) (T : Txt K mg C) (M_count_inputs : Met P w K mg base 1 C "count_inputs" (spCountInputs C)) :
    Fn P w K mg base 2 "call_state" f (spDo K C 23) := by
  refine D.fn sc_call_state (fun vs H Q E h => ?_) (fun cdv A outer s H vs Q E hr h => ?_)
  · obtain ⟨b, g, m, z, ms, rfl, _⟩ := h
    rfl
  · obtain ⟨b, g, m, z, ms, rfl, B, hz, hS, hn, k⟩ := h
    obtain ⟨a, rfl⟩ := begun hz (by decide)
    obtain ⟨dx, hb⟩ := B.obj
    have ga := B.ok a rfl
    have hlen : a.f.length = 2 ^ a.n := ga.len
    have h16 : a.f.length ≤ 16 := len16 ⟨a.n, ga.n4, ga.len⟩
    refine ⟨_, (pss_one (ps_ret (pe_op op_cat (pe_lst (pa_cons (pe_met0 M_count_inputs hr (by decide) (pv 0)) (pa_cons (pe_fld (pv 0) rfl) pa_nil))) (pe_fld (pv 0) rfl)))), ?_⟩
    have e0 : Kh412.doing (some a) (clN 23 ms) = (some a, Kh412.nats a.n (a.k :: a.f)) := rfl
    rw [e0] at k
    refine ⟨_, rfl, b, dx, _, rfl, hb, bk_no _ _ (by decide +kernel) (by decide +kernel), b, g, a, rfl, B, _, rfl, b, C, dx, _, _, rfl, hb, T.cl, T.n_answer_count, bk_count _ _, by show 2 ≤ sizeLine; decide, fun r hr1 => ?_⟩
    have s1 := Same.new (o := .lst [.int (a.n : Int), .int (a.k : Int)]) hr1
    have hb1 := s1 _ _ hb
    refine ⟨_, rfl, b, C, dx, _, _, rfl, hb1, T.cl, T.n_given, bk_given _ _, r, g, _, _, rfl, rfl, upd_same, s1 _ _ B.lst, ?_, fun u hu => k.look B (s1.trans (Same.new hu)) (s1.free hu) ?_⟩
    · rw [iv_len]
      show 2 + a.f.length ≤ sizeLine
      exact Nat.le_trans (by omega : 2 + a.f.length ≤ 18) (by decide)
    · rw [upd_same, nats_iv]
      rfl
end
end Ga

set_option Elab.async false
set_option linter.all false
set_option maxRecDepth 100000
set_option maxHeartbeats 2000000
namespace Ga
open PySem PySem.Spec PyProof.Rows L2
def plains : List Nat := [2, 2, 0, 0, 0, 0, 1, 0, 0, 0, 0, 1, 2, 2, 2, 0, 0, 1, 0, 1, 0, 0, 0, 0]
/-- the tables of the text's top -/
structure Tab (K : PySem.W.Frag) (mg : Str → Option Value) (tR tP tA : Addr) (acts : List Addr) : Prop where
  c_ROW_CALLS : mg "ROW_CALLS" = some (.ref tR)
  t_ROW_CALLS : ∀ H : Hp, SqT K H tR (iv [2, 3, 15, 16, 18])
  c_PLAIN_NUMBERS : mg "PLAIN_NUMBERS" = some (.ref tP)
  t_PLAIN_NUMBERS : ∀ H : Hp, SqT K H tP (iv plains)
  c_ACTIONS : mg "ACTIONS" = some (.ref tA)
  t_ACTIONS : ∀ H : Hp, SqT K H tA (acts.map V.ref)
abbrev s_answer_call : Stmt := top 56
abbrev s_numbers_start : Stmt := top 57
abbrev s_numbers_count : Stmt := top 58
abbrev s_answers : Stmt := top 59
def spStart (K : PySem.W.Frag) : Sp := fun vs H Q _ => ∃ (a : Addr) (L : List Nat) (i : Nat), vs = [.ref a, .int (i : Int)] ∧ SqL K H a (iv L) ∧ i < L.length ∧ Q (.int ((if rowP (L.getD i 0) then i + 2 else i + 1 : Nat) : Int)) H
def spCount (K : PySem.W.Frag) : Sp := fun vs H Q _ => ∃ (a : Addr) (L : List Nat) (i : Nat), vs = [.ref a, .int (i : Int)] ∧ SqL K H a (iv L) ∧ i < L.length ∧ L.getD i 0 < 24 ∧ (rowP (L.getD i 0) = true → i + 1 < L.length) ∧
  Q (.int ((if rowP (L.getD i 0) then L.getD (i + 1) 0 else plains.getD (L.getD i 0) 0 : Nat) : Int)) H
def spAnswerCall (K : PySem.W.Frag) (C : Addr) (lim : Nat) : Sp := fun vs H Q _ => ∃ (b g m : Addr) (p : Nat) (s : Option Kh412.Abs) (ms : List Nat), vs = [.ref b, .int (p : Int), .ref m] ∧ BookAt C H b g s ∧ p < lim ∧ SqL K H m (iv ms) ∧ okN p ms.length ∧
  Cont C H b g (Kh412.doing s (clN p ms)) Q
def spAnswers (K : PySem.W.Frag) (lim : Nat) : Sp := fun vs H Q _ => ∃ (a : Addr) (cs : List (Nat × List Nat)), vs = [.ref a] ∧ SqL K H a (iv (encs cs)) ∧ (∀ c, c ∈ cs → c.1 < lim ∧ okN c.1 c.2.length) ∧ (playN none cs).length ≤ 10000000 ∧
  ∀ (H' : Hp) (q : Addr), H' q = some (.lst ((playN none cs).map V.int)) → Q (.ref q) H'
theorem iv_flat (l : List Nat) : (iv l).all flatV = true := by
  unfold iv
  rw [List.all_map]
  exact List.all_eq_true.mpr fun _ _ => rfl
theorem in_rows (p : Nat) : inV (.int (p : Int)) (iv [2, 3, 15, 16, 18]) = rowP p := by
  have e : ∀ q : Nat, eqV (.int (q : Int)) (.int (p : Int)) = (p == q) := fun q => by
    show ((q : Int) == (p : Int)) = (p == q)
    rw [Bool.eq_iff_iff, beq_iff_eq, beq_iff_eq]
    omega
  show ((eqV (.int ((2 : Nat) : Int)) (.int (p : Int))) || ((eqV (.int ((3 : Nat) : Int)) (.int (p : Int))) || ((eqV (.int ((15 : Nat) : Int)) (.int (p : Int))) || ((eqV (.int ((16 : Nat) : Int)) (.int (p : Int))) || ((eqV (.int ((18 : Nat) : Int)) (.int (p : Int))) || false))))) = rowP p
  rw [e, e, e, e, e]
  unfold rowP
  simp only [List.contains_cons, List.contains_nil]
theorem doing_none {p : Nat} (ms : List Nat) (h : p ≠ 0) (h24 : p < 24) : Kh412.doing none (clN p ms) = (none, Kh412.say (-61)) := by
  have d : p = 1 ∨ p = 2 ∨ p = 3 ∨ p = 4 ∨ p = 5 ∨ p = 6 ∨ p = 7 ∨ p = 8 ∨ p = 9 ∨ p = 10 ∨ p = 11 ∨ p = 12 ∨ p = 13 ∨ p = 14 ∨ p = 15 ∨ p = 16 ∨ p = 17 ∨ p = 18 ∨ p = 19 ∨ p = 20 ∨ p = 21 ∨ p = 22 ∨ p = 23 := by omega
  rcases d with rfl | rfl | rfl | rfl | rfl | rfl | rfl | rfl | rfl | rfl | rfl | rfl | rfl | rfl | rfl | rfl | rfl | rfl | rfl | rfl | rfl | rfl | rfl
  all_goals rfl
theorem Fn.up {P : Program} {w : World} {K : PySem.W.Frag} {mg : Str → Option Value} {base : Heap} {j k : Nat} {x : Str} {f : Addr} {sp : Sp} (F : Fn P w K mg base j x f sp) (h : j ≤ k) : Fn P w K mg base k x f sp := by
  obtain ⟨fd, ps, F1, b⟩ := F.ex
  exact ⟨⟨fd, ps, F1.mono h, b⟩, F.mgf, F.kp⟩
/-! ### the list of the calls by places -/
def hd1 (c : Nat × List Nat) : List Nat := if rowP c.1 then [c.1, c.2.length] else [c.1]
theorem enc1_hd (c : Nat × List Nat) : enc1 c = hd1 c ++ c.2 := by
  unfold enc1 hd1
  cases rowP c.1 <;> rfl
theorem encs_cons (c : Nat × List Nat) (r : List (Nat × List Nat)) : encs (c :: r) = hd1 c ++ c.2 ++ encs r := by
  show enc1 c ++ encs r = _
  rw [enc1_hd]
theorem encs_app (l m : List (Nat × List Nat)) : encs (l ++ m) = encs l ++ encs m := by
  unfold encs
  rw [List.flatMap_append]
theorem getD_app (A B : List Nat) (j : Nat) : (A ++ B).getD (A.length + j) 0 = B.getD j 0 := by
  rw [List.getD_eq_getElem?_getD, List.getElem?_append_right (Nat.le_add_right _ _), Nat.add_sub_cancel_left, List.getD_eq_getElem?_getD]
theorem ok_plain {p n : Nat} (hp : p < 24) (hw : rowP p = false) (h : okN p n) : plains.getD p 0 = n := by
  have d : p = 0 ∨ p = 1 ∨ p = 2 ∨ p = 3 ∨ p = 4 ∨ p = 5 ∨ p = 6 ∨ p = 7 ∨ p = 8 ∨ p = 9 ∨ p = 10 ∨ p = 11 ∨ p = 12 ∨ p = 13 ∨ p = 14 ∨ p = 15 ∨ p = 16 ∨ p = 17 ∨ p = 18 ∨ p = 19 ∨ p = 20 ∨ p = 21 ∨ p = 22 ∨ p = 23 := by omega
  rcases d with rfl | rfl | rfl | rfl | rfl | rfl | rfl | rfl | rfl | rfl | rfl | rfl | rfl | rfl | rfl | rfl | rfl | rfl | rfl | rfl | rfl | rfl | rfl | rfl
  all_goals first
    | exact absurd hw (by decide)
    | exact h.symm
theorem cut_mid (A X B : List Nat) {lo hi : Int} (h1 : lo = (A.length : Int)) (h2 : hi = ((A.length + X.length : Nat) : Int)) : cutV (iv (A ++ X ++ B)) (some lo) (some hi) = iv X := by
  subst h1 h2
  unfold cutV
  rw [HT.sIx_nat, HT.sIx_nat, iv_len, List.length_append, List.length_append, Nat.min_eq_left (by omega), Nat.min_eq_left (by omega)]
  unfold iv
  rw [← List.map_drop, ← List.map_take]
  refine congrArg (List.map _) ?_
  rw [List.append_assoc, List.drop_left, show A.length + X.length - A.length = X.length by omega]
  exact List.take_left
/-- the object behind some calls -/
def after (s : Option Kh412.Abs) (cs : List (Nat × List Nat)) : Option Kh412.Abs := cs.foldl (fun s c => (Kh412.doing s (clN c.1 c.2)).1) s
theorem play_app : ∀ (l m : List (Nat × List Nat)) (s : Option Kh412.Abs), playN s (l ++ m) = playN s l ++ playN (after s l) m
  | [], _, _ => rfl
  | c :: l, m, s => by
    show _ :: (_ :: _) ++ playN (Kh412.doing s (clN c.1 c.2)).1 (l ++ m) = (_ :: (_ :: _) ++ playN (Kh412.doing s (clN c.1 c.2)).1 l) ++ _
    rw [play_app l m, List.append_assoc]
    rfl
theorem after_snoc (l : List (Nat × List Nat)) (c : Nat × List Nat) (s : Option Kh412.Abs) : after s (l ++ [c]) = (Kh412.doing (after s l) (clN c.1 c.2)).1 := by
  unfold after
  rw [List.foldl_append]
  rfl
theorem play_snoc (l : List (Nat × List Nat)) (c : Nat × List Nat) (s : Option Kh412.Abs) : playN s (l ++ [c]) = playN s l ++ ((((Kh412.doing (after s l) (clN c.1 c.2)).2.out.length + 1 : Nat) : Int) :: ((Kh412.doing (after s l) (clN c.1 c.2)).2.ret :: (Kh412.doing (after s l) (clN c.1 c.2)).2.out)) := by
  rw [play_app]
  show _ ++ (_ :: (_ :: _) ++ []) = _
  rw [List.append_nil]
section
variable {P : Program} {w : World} {K : PySem.W.Frag} {mg : Str → Option Value} {base : Heap} {C tR tP tA : Addr} {acts : List Addr}
theorem sc_numbers_start : FnScope ["calls", "start"] ["calls", "start"] (defScope s_numbers_start) := ⟨rfl, rfl, rfl, by decide +kernel, rfl, by decide +kernel, by decide +kernel⟩
theorem ok_numbers_start {f : Addr} (D : Dn K mg "numbers_start" s_numbers_start f ["calls", "start"]) (T : Tab K mg tR tP tA acts) : Fn P w K mg base 1 "numbers_start" f (spStart K) := by
  refine D.fn sc_numbers_start (fun vs H Q E h => ?_) (fun cdv A outer s H vs Q E hr h => ?_)
  · obtain ⟨a, L, i, rfl, _⟩ := h
    rfl
  · obtain ⟨a, L, i, rfl, hS, hi, k⟩ := h
    refine ⟨_, (pss_one (ps_ret (pe_ifExp (pt_cmpR op_in_seq (pe_ix ix_list (pv 0) (pv 1) (fun _ _ => rfl)) (pe_gr T.c_ROW_CALLS rfl) (by rfl)) (pe_op op_add (pv 1) pe_int) (pe_op op_add (pv 1) pe_int)))), ?_⟩
    refine ⟨_, rfl, _, rfl, a, _, _, _, rfl, rfl, hS, iv_at rfl hi, tR, _, rfl, .inr (T.t_ROW_CALLS H), rfl, iv_flat _, _, rfl, ?_⟩
    show if inV (.int ((L.getD i 0 : Nat) : Int)) (iv [2, 3, 15, 16, 18]) = true then _ else _
    rw [in_rows]
    refine iteI (fun e => ?_) (fun e => ?_)
    · rw [e] at k
      exact ⟨_, rfl, _, _, rfl, rfl, k⟩
    · rw [e] at k
      exact ⟨_, rfl, _, _, rfl, rfl, k⟩
theorem sc_numbers_count : FnScope ["calls", "start"] ["calls", "start"] (defScope s_numbers_count) := ⟨rfl, rfl, rfl, by decide +kernel, rfl, by decide +kernel, by decide +kernel⟩
theorem ok_numbers_count {f : Addr} (D : Dn K mg "numbers_count" s_numbers_count f ["calls", "start"]) (T : Tab K mg tR tP tA acts) : Fn P w K mg base 1 "numbers_count" f (spCount K) := by
  refine D.fn sc_numbers_count (fun vs H Q E h => ?_) (fun cdv A outer s H vs Q E hr h => ?_)
  · obtain ⟨a, L, i, rfl, _⟩ := h
    rfl
  · obtain ⟨a, L, i, rfl, hS, hi, hp, hr1, k⟩ := h
    refine ⟨_, (pss_one (ps_ret (pe_ifExp (pt_cmpR op_in_seq (pe_ix ix_list (pv 0) (pv 1) (fun _ _ => rfl)) (pe_gr T.c_ROW_CALLS rfl) (by rfl)) (pe_ix ix_list (pv 0) (pe_op op_add (pv 1) pe_int) (fun _ _ => rfl)) (pe_ix ix_tup (pe_gr T.c_PLAIN_NUMBERS rfl) (pe_ix ix_list (pv 0) (pv 1) (fun _ _ => rfl)) (fun _ _ => rfl))))), ?_⟩
    refine ⟨_, rfl, _, rfl, a, _, _, _, rfl, rfl, hS, iv_at rfl hi, tR, _, rfl, .inr (T.t_ROW_CALLS H), rfl, iv_flat _, _, rfl, ?_⟩
    show if inV (.int ((L.getD i 0 : Nat) : Int)) (iv [2, 3, 15, 16, 18]) = true then _ else _
    rw [in_rows]
    refine iteI (fun e => ?_) (fun e => ?_)
    · rw [e] at k
      exact ⟨_, rfl, _, rfl, _, _, rfl, rfl, a, _, _, _, rfl, rfl, hS, iv_at (i := i + 1) rfl (hr1 e), k⟩
    · rw [e] at k
      exact ⟨_, rfl, _, rfl, a, _, _, _, rfl, rfl, hS, iv_at rfl hi, tP, _, _, _, rfl, rfl, T.t_PLAIN_NUMBERS H, iv_at rfl hp, k⟩
theorem sc_answer_call : FnScope ["book", "number", "numbers", "action"] ["book", "number", "numbers"] (defScope s_answer_call) := ⟨rfl, rfl, rfl, by decide +kernel, rfl, by decide +kernel, by decide +kernel⟩
theorem ok_answer_call {f : Addr} {lim : Nat} (hlim : lim ≤ 24) (D : Dn K mg "answer_call" s_answer_call f ["book", "number", "numbers"]) (T : Txt K mg C) (TT : Tab K mg tR tP tA acts) (M_has_begun : Met P w K mg base 1 C "has_begun" (spHasBegun C))
    (FA : ∀ p, p < lim → ∃ (x : Str) (f : Addr), acts[p]? = some f ∧ Fn P w K mg base 6 x f (spDo K C p)) : Fn P w K mg base 7 "answer_call" f (spAnswerCall K C lim) := by
  refine D.fn sc_answer_call (fun vs H Q E h => ?_) (fun cdv A outer s H vs Q E hr h => ?_)
  · obtain ⟨b, g, m, p, z, ms, rfl, _⟩ := h
    rfl
  · obtain ⟨b, g, m, p, z, ms, rfl, B, hp, hS, hn, k⟩ := h
    obtain ⟨x, f1, hf1, F1⟩ := FA p hp
    obtain ⟨fd, ps, F, bi⟩ := F1.ex
    obtain ⟨dx, hb⟩ := B.obj
    refine ⟨_, (pss_cons (ps_if (PW.pt (pw_and (pt_cmpR op_ne (pv 1) (pe_gi T.c_BEGIN rfl) (nomark _)) (pw_and1 (pt_not (pt_val (pe_met0 M_has_begun hr (by decide) (pv 0)))))))
        (pss_one (ps_ret (pe_lst (pa_cons (pe_gi T.c_NOT_BEGUN rfl) pa_nil))))
        pss_nil)
      (pss_cons (ps_set (i := 3) sc_answer_call.nd rfl (Or.inl rfl) (pe_ix ix_tup (pe_gr TT.c_ACTIONS rfl) (pv 1) (fun _ _ => rfl)))
      (pss_one (ps_ret (pe_callL (i := 3) F hr rfl (Or.inl rfl) F1.kp bi .nil pass0 (pa_cons (pv 0) (pa_cons (pv 2) pa_nil))))))), ?_⟩
    have go : ∀ H1 : Hp, Same H H1 → (p ≠ 0 → z ≠ none) → (tSeq (tAsg (tOp (rIxT K) (tC (.ref tA)) (tVar 1)) (gName 3)) (tRet (tCallL 3 f1 (spDo K C p) [] E0 (tCons (tVar 0) (tCons (tVar 2) tNil)))))
        { nx := fun _ H' => Q .non H', rt := Q } [some (.ref b), some (.int (p : Int)), some (.ref m), none] H1 := fun H1 s1 hz => by
      refine ⟨_, rfl, tA, _, _, _, rfl, rfl, TT.t_ACTIONS H1, at_of rfl (by rw [List.getElem?_map, hf1]; rfl), rfl, _, rfl, _, rfl, ?_⟩
      refine ⟨b, g, m, z, ms, rfl, B.mono s1, hz, s1.seq hS, hn, fun H' g' q hB hg hfr hq he => ?_⟩
      refine k H' g' q hB (hg.elim .inl fun h => .inr (s1.free h)) (fun c o h h1 h2 => hfr c o (s1 _ _ h) h1 h2) (s1.free hq) he
    refine ⟨_, rfl, rfl, _, rfl, ?_⟩
    rw [int_eq]
    refine iteI (fun e1 => ?_) (fun e1 => ?_)
    · refine ⟨_, rfl, b, dx, _, rfl, hb, bk_no _ _ (by decide +kernel) (by decide +kernel), b, g, z, rfl, B, fun H1 s1 => ⟨_, rfl, ?_⟩⟩
      have hp0 : p ≠ 0 := fun q => by
        rw [q] at e1
        cases e1
      cases z with
      | none =>
        refine iteT ⟨by show 1 ≤ sizeLine; decide, fun q hq => ?_⟩
        rw [doing_none ms hp0 (Nat.lt_of_lt_of_le hp hlim)] at k
        exact k.look B (s1.trans (Same.new hq)) (s1.free hq) upd_same
      | some a => exact iteF (go H1 s1 (fun _ q => by cases q))
    · have hp0 : p = 0 := by
        rw [Bool.not_eq_false', decide_eq_true_eq] at e1
        omega
      exact iteF (go H (Same.refl H) (fun q => absurd hp0 q))
theorem sc_answers : FnScope ["calls", "book", "said", "start", "first", "end", "told"] ["calls"] (defScope s_answers) := ⟨rfl, rfl, rfl, by decide +kernel, rfl, by decide +kernel, by decide +kernel⟩
end
end Ga

set_option Elab.async false
set_option linter.all false
set_option maxRecDepth 100000
set_option maxHeartbeats 2000000
namespace Ga
open PySem PySem.Spec PyProof.Rows L2
section
variable {P : Program} {w : World} {K : PySem.W.Frag} {mg : Str → Option Value} {base : Heap} {C tR tP tA : Addr} {acts : List Addr}
/-- what stands at a turn's beginning of the loop -/
def Turn (C : Addr) (a b q : Addr) (cs : List (Nat × List Nat)) (H0 : Hp) (σ : L2.St) (H : Hp) : Prop := ∃ (pre rest : List (Nat × List Nat)) (g : Addr) (v4 v5 v6 : Option V), cs = pre ++ rest ∧
  σ = [some (.ref a), some (.ref b), some (.ref q), some (.int ((encs pre).length : Nat)), v4, v5, v6] ∧ BookAt C H b g (after none pre) ∧ H q = some (.lst ((playN none pre).map V.int)) ∧ q ≠ b ∧ q ≠ g ∧ Same H0 H ∧ H0 g = none
def left (n : Nat) (σ : L2.St) : Nat := match σ[3]? with
  | some (some (V.int i)) => n - i.toNat
  | _ => 0
theorem hd1_len (c : Nat × List Nat) : (hd1 c).length = if rowP c.1 then 2 else 1 := by
  unfold hd1
  cases rowP c.1 <;> rfl
theorem hd1_0 (c : Nat × List Nat) (r : List Nat) : (hd1 c ++ r).getD 0 0 = c.1 := by
  unfold hd1
  cases rowP c.1 <;> rfl
theorem hd1_1 (c : Nat × List Nat) (r : List Nat) (h : rowP c.1 = true) : (hd1 c ++ r).getD 1 0 = c.2.length := by
  unfold hd1
  rw [h]
  rfl
theorem fnok_of {f f1 f2 f3 : Addr} {fd : FuncData} {lim : Nat} (hlim : lim ≤ 24) (F : Fun K "answers" "answers" s_answers f fd) (T : Txt K mg C) (G_Book : Mak P w K mg base 1 "Book" C (spInit C)) (G_numbers_start : Fn P w K mg base 1 "numbers_start" f1 (spStart K)) (G_numbers_count : Fn P w K mg base 1 "numbers_count" f2 (spCount K))
    (G_answer_call : Fn P w K mg base 7 "answer_call" f3 (spAnswerCall K C lim)) : FnOk P w K mg base CX0 8 f fd ["calls"] (spAnswers K lim) := by
  refine F.ok sc_answers (fun vs H Q E h => ?_) (fun cdv A outer s H vs Q E hr h => ?_)
  · obtain ⟨a, cs, rfl, _⟩ := h
    rfl
  · obtain ⟨a, cs, rfl, hS, hok, hmax, k⟩ := h
    refine ⟨_, (pss_cons (ps_set (i := 1) sc_answers.nd rfl (Or.inl rfl) (pe_mk0 G_Book hr (by decide) rfl))
      (pss_cons (ps_set (i := 2) sc_answers.nd rfl (Or.inl rfl) (pe_lst pa_nil))
      (pss_cons (ps_set (i := 3) sc_answers.nd rfl (Or.inl rfl) pe_int)
      (pss_cons (ps_while PassesOwn.never (pt_cmpR op_lt (pv 3) (pe_callB call_len_seq (by rfl) T.b_len PySem.boot_len (pa_cons (pv 0) pa_nil)) (nomark _))
        (pss_cons (ps_set (i := 4) sc_answers.nd rfl (Or.inl rfl) (pe_fn G_numbers_start hr (by decide) rfl (pa_cons (pv 0) (pa_cons (pv 3) pa_nil))))
        (pss_cons (ps_set (i := 5) sc_answers.nd rfl (Or.inl rfl) (pe_op op_add (pv 4) (pe_fn G_numbers_count hr (by decide) rfl (pa_cons (pv 0) (pa_cons (pv 3) pa_nil)))))
        (pss_cons (ps_set (i := 6) sc_answers.nd rfl (Or.inl rfl) (pe_fn G_answer_call hr (by decide) rfl (pa_cons (pv 1) (pa_cons (pe_ix ix_list (pv 0) (pv 3) (fun _ _ => rfl)) (pa_cons (pe_slice sl_list (pv 0) (po_some (pv 4)) (po_some (pv 5))) pa_nil)))))
        (pss_cons (ps_expr (pe_bm PySem.F.plainAttrs_list PySem.F.slot_list_append PySem.F.type_list_append mt_append (pv 2) (pa_cons (pe_callB call_len_seq (by rfl) T.b_len PySem.boot_len (pa_cons (pv 6) pa_nil)) pa_nil)))
        (pss_cons (ps_expr (pe_bm PySem.F.plainAttrs_list PySem.F.slot_list_extend PySem.F.type_list_extend mt_extend (pv 2) (pa_cons (pv 6) pa_nil)))
        (pss_one (ps_set (i := 3) sc_answers.nd rfl (Or.inl rfl) (pv 5)))))))))
      (pss_one (ps_ret (pv 2))))))), ?_⟩
    intro b dx nb ndx ne
    refine ⟨b, dx, rfl, upd_same, fun H1 g B1 hg1 kp => ⟨rfl, ?_⟩⟩
    have s1 : Same H H1 := Same.made nb ndx kp
    refine ⟨Nat.zero_le _, fun q hq => ?_⟩
    obtain ⟨dx1, hb1⟩ := B1.obj
    have nqb : q ≠ b := (ne_of_none hb1 hq).symm
    have nqg : q ≠ g := (ne_of_none B1.lst hq).symm
    have nb0 : H b = none := nb
    have sB : Same H (upd (upd H dx (.own b)) b (.ins C dx [])) := (Same.new ndx).trans (Same.new (by rw [upd_ne ne.symm]; exact nb))
    have ng0 : H g = none := sB.free hg1
    have nq0 : H q = none := s1.free hq
    have s2 : Same H (upd H1 q (.lst [])) := s1.trans (Same.new hq)
    refine while_by (Turn C a b q cs H) (fun σ _ => left (encs cs).length σ) ?_ ?_ ?_
    · refine ⟨[], cs, g, none, none, none, rfl, rfl, B1.mono (Same.new hq), upd_same, nqb, nqg, s2, ng0⟩
    · rintro σ H2 ⟨pre, rest, g2, v4, v5, v6, ecs, rfl, B2, hq2, n1, n2, s3, n3⟩
      have hS2 : SqL K H2 a (iv (encs cs)) := s3.seq hS
      refine ⟨_, rfl, _, rfl, a, _, rfl, .inl hS2, _, _, rfl, rfl, _, rfl, ?_⟩
      rw [iv_len]
      refine iteI (fun e => ?_) (fun e => ?_)
      · have hlt : (encs pre).length < (encs cs).length := by
          have := of_decide_eq_true e
          omega
        cases rest with
        | nil =>
          rw [ecs, List.append_nil] at hlt
          exact absurd hlt (Nat.lt_irrefl _)
        | cons c rest =>
          have hc := hok c (by rw [ecs]; exact List.mem_append_right _ (List.mem_cons_self ..))
          have hc24 : c.1 < 24 := Nat.lt_of_lt_of_le hc.1 hlim
          have eL : encs cs = encs pre ++ (hd1 c ++ c.2 ++ encs rest) := by rw [ecs, encs_app, encs_cons]
          have e0 : (encs cs).getD (encs pre).length 0 = c.1 := by
            have q := getD_app (encs pre) (hd1 c ++ c.2 ++ encs rest) 0
            rw [Nat.add_zero, ← eL, List.append_assoc, hd1_0] at q
            exact q
          have e1 : rowP c.1 = true → (encs cs).getD ((encs pre).length + 1) 0 = c.2.length := fun hw => by
            have q := getD_app (encs pre) (hd1 c ++ c.2 ++ encs rest) 1
            rw [← eL, List.append_assoc, hd1_1 _ _ hw] at q
            exact q
          have hl1 : rowP c.1 = true → (encs pre).length + 1 < (encs cs).length := fun hw => by
            rw [eL, List.length_append, List.length_append, List.length_append, hd1_len, hw]
            show (encs pre).length + 1 < (encs pre).length + (2 + c.2.length + (encs rest).length)
            omega
          have ef : (if rowP ((encs cs).getD (encs pre).length 0) then (encs pre).length + 2 else (encs pre).length + 1) = (encs pre ++ hd1 c).length := by
            rw [e0, List.length_append, hd1_len]
            cases rowP c.1 <;> rfl
          have en : (if rowP ((encs cs).getD (encs pre).length 0) then (encs cs).getD ((encs pre).length + 1) 0 else plains.getD ((encs cs).getD (encs pre).length 0) 0) = c.2.length := by
            rw [e0]
            cases hw : rowP c.1 with
            | true => exact e1 hw
            | false => exact ok_plain hc24 hw hc.2
          refine ⟨_, rfl, _, rfl, a, encs cs, _, rfl, hS2, hlt, ?_⟩
          rw [ef]
          refine ⟨_, rfl, _, rfl, _, rfl, a, encs cs, _, rfl, hS2, hlt, by rw [e0]; exact hc24, by rw [e0]; exact hl1, ?_⟩
          rw [en]
          refine ⟨_, _, rfl, rfl, ?_⟩
          refine ⟨_, rfl, _, rfl, _, rfl, a, _, _, _, rfl, rfl, hS2, iv_at rfl hlt, _, rfl, _, rfl, _, rfl, _, rfl, _, rfl, a, _, rfl, hS2, fun m hm => ?_⟩
          have hcut : cutV (iv (encs cs)) (some (((encs pre ++ hd1 c).length : Nat) : Int)) (some ((((encs pre ++ hd1 c).length : Nat) : Int) + ((c.2.length : Nat) : Int))) = iv c.2 := by
            rw [show encs cs = (encs pre ++ hd1 c) ++ c.2 ++ encs rest by rw [eL]; simp only [List.append_assoc]]
            exact cut_mid _ _ _ rfl (by omega)
          have s4 : ∀ o : HO, Same H2 (upd H2 m o) := fun o => Same.new hm
          refine ⟨b, g2, m, c.1, after none pre, c.2, by rw [e0]; rfl, B2.mono (s4 _), hc.1, by rw [← hcut]; exact SqL.of upd_same, hc.2, fun H3 g3 t B3 hg3 fr ht he => ?_⟩
          have s5 : Same H H3 := fun x o h => by
            have n1' : x ≠ b := ne_of_none h nb0
            have n2' : x ≠ g2 := ne_of_none h n3
            exact fr x o (s4 _ _ _ (s3 _ _ h)) n1' n2'
          have hq3 : H3 q = some (.lst ((playN none pre).map V.int)) := fr q _ (s4 _ _ _ hq2) n1 n2
          have nqt : q ≠ t := ne_of_none (s4 _ _ _ hq2) ht
          have eP := play_snoc pre c none
          have eA := after_snoc pre c none
          have epre : cs = (pre ++ [c]) ++ rest := by rw [ecs, List.append_assoc]; rfl
          have hbound : (playN none (pre ++ [c])).length ≤ 10000000 := by
            rw [epre, play_app, List.length_append] at hmax
            omega
          generalize hr2 : Kh412.doing (after none pre) (clN c.1 c.2) = r at eP eA B3 he
          have hb2 : (playN none pre).length + (r.2.out.length + 2) ≤ 10000000 := by
            rw [eP, List.length_append] at hbound
            exact hbound
          refine ⟨_, rfl, .inl ⟨rfl, _, SqL.of hq3⟩, _, rfl, t, _, rfl, .inl (SqL.of he), q, _, _, rfl, rfl, hq3, ?_, ?_⟩
          · rw [List.length_map]
            exact Nat.lt_of_lt_of_le (by omega : (playN none pre).length < 10000001) (by decide)
          · refine ⟨_, rfl, .inl ⟨rfl, _, SqL.of upd_same⟩, _, rfl, q, t, _, _, rfl, rfl, upd_same, by rw [upd_ne nqt.symm]; exact he, ?_, ?_⟩
            · rw [List.length_append, List.length_map, List.length_map]
              show (playN none pre).length + 1 + (r.2.out.length + 1) ≤ sizeLine
              exact Nat.le_trans (by omega) (by decide : 10000000 ≤ sizeLine)
            · refine ⟨_, rfl, ?_⟩
              have n2'' : q ≠ g3 := by
                rcases hg3 with h | h
                · rw [h]; exact n2
                · exact ne_of_none (s4 _ _ _ hq2) h
              have ng3 : H g3 = none := by
                rcases hg3 with h | h
                · rw [h]; exact n3
                · exact (s3.trans (s4 _)).free h
              obtain ⟨dx3, hb3⟩ := B3.obj
              refine ⟨⟨pre ++ [c], rest, g3, some (.int (((encs pre ++ hd1 c).length : Nat) : Int)), some (.int ((((encs pre ++ hd1 c).length : Nat) : Int) + ((c.2.length : Nat) : Int))), some (.ref t), epre, ?_, ?_, ?_, n1, n2'', ?_, ng3⟩, ?_⟩
              · have e9 : (((encs pre ++ hd1 c).length : Nat) : Int) + ((c.2.length : Nat) : Int) = (((encs (pre ++ [c])).length : Nat) : Int) := by
                  rw [encs_app, encs_cons, show encs [] = [] from rfl, List.append_nil, List.length_append, List.length_append, List.length_append]
                  omega
                rw [← e9]
                rfl
              · rw [eA]
                refine ⟨⟨dx3, ?_⟩, ?_, B3.ok⟩
                · rw [upd_ne n1.symm, upd_ne n1.symm]
                  exact hb3
                · rw [upd_ne n2''.symm, upd_ne n2''.symm]
                  exact B3.lst
              · rw [upd_same, eP, List.map_append, List.append_assoc]
                show some (HO.lst (_ ++ ([V.int ((((r.2.ret :: r.2.out).map V.int).length : Nat) : Int)] ++ (r.2.ret :: r.2.out).map V.int))) = _
                rw [List.length_map]
                rfl
              · intro x o h
                have n9 : x ≠ q := ne_of_none h nq0
                rw [upd_ne n9, upd_ne n9]
                exact s5 _ _ h
              · show (encs cs).length - ((((encs pre ++ hd1 c).length : Nat) : Int) + ((c.2.length : Nat) : Int)).toNat < (encs cs).length - (((encs pre).length : Nat) : Int).toNat
                have h9 : 1 ≤ (hd1 c).length := by
                  rw [hd1_len]
                  cases rowP c.1 <;> decide
                rw [List.length_append]
                omega
      · have hge : rest = [] := by
          cases rest with
          | nil => rfl
          | cons c rest =>
            have h9 : 1 ≤ (hd1 c).length := by
              rw [hd1_len]
              cases rowP c.1 <;> decide
            have := of_decide_eq_false e
            rw [ecs, encs_app, encs_cons, List.length_append, List.length_append, List.length_append] at this
            omega
        rw [hge, List.append_nil] at ecs
        subst ecs
        exact ⟨_, rfl, k _ q hq2⟩
    · rintro σ H3 Q1 Q2 hQ ⟨v, e1, u, e2, p, ys, e3, e4, i, j, e5, e6, kk, e7, q1⟩
      exact ⟨v, e1, u, e2, p, ys, e3, e4, i, j, e5, e6, kk, e7, hQ _ _ q1⟩
end
end Ga

set_option Elab.async false
set_option linter.all false
set_option maxRecDepth 100000
set_option maxHeartbeats 4000000
namespace Ga
open PySem PySem.Spec PyProof.Rows L2
theorem tup_of {K : PySem.W.Frag} {H : Hp} {t : Addr} {o : Option Addr} {d : Array Value} {n : Nat} {s : Array (Option Value)} {xs : List V} (u : K.lookup t = some ⟨.type "tuple", o, .seq d n, s⟩) (v : Vals xs d.toList) (hz : xs.length ≤ 1000) : SqT K H t xs := by
  refine .inr ⟨_, d, n, u, rfl, rfl, ?_, v⟩
  have e := Paired.length v
  rw [← Array.length_toList, ← e]
  exact Nat.le_trans hz (by decide)
theorem ofs_iv (l : List Nat) : (ofs l).map V.int = iv l := by
  unfold ofs iv
  rw [List.map_map]
  rfl
theorem all_mk {P : Program} {w : World} {K : PySem.W.Frag} {h : Heap} {mg : Str → Option Value} {fa : Addr} (X : K.In h) (G : h.Ns mainGlobals mg) (hfa : mg "answers" = some (.ref fa))
    {C : Addr}
    {f___init__ : Addr} {od___init__ an___init__ : Option Addr} {sl___init__ : Array (Option Value)} {oc___init__ kV___init__ dc___init__ pm___init__ cd___init__ ct___init__ : Value}
    {f_has_begun : Addr} {od_has_begun an_has_begun : Option Addr} {sl_has_begun : Array (Option Value)} {oc_has_begun kV_has_begun dc_has_begun pm_has_begun cd_has_begun ct_has_begun : Value}
    {f_count_inputs : Addr} {od_count_inputs an_count_inputs : Option Addr} {sl_count_inputs : Array (Option Value)} {oc_count_inputs kV_count_inputs dc_count_inputs pm_count_inputs cd_count_inputs ct_count_inputs : Value}
    {f_has_input : Addr} {od_has_input an_has_input : Option Addr} {sl_has_input : Array (Option Value)} {oc_has_input kV_has_input dc_has_input pm_has_input cd_has_input ct_has_input : Value}
    {f_has_inputs : Addr} {od_has_inputs an_has_inputs : Option Addr} {sl_has_inputs : Array (Option Value)} {oc_has_inputs kV_has_inputs dc_has_inputs pm_has_inputs cd_has_inputs ct_has_inputs : Value}
    {f_count_answer_sets : Addr} {od_count_answer_sets an_count_answer_sets : Option Addr} {sl_count_answer_sets : Array (Option Value)} {oc_count_answer_sets kV_count_answer_sets dc_count_answer_sets pm_count_answer_sets cd_count_answer_sets ct_count_answer_sets : Value}
    {f_has_answers : Addr} {od_has_answers an_has_answers : Option Addr} {sl_has_answers : Array (Option Value)} {oc_has_answers kV_has_answers dc_has_answers pm_has_answers cd_has_answers ct_has_answers : Value}
    {f_has_answer : Addr} {od_has_answer an_has_answer : Option Addr} {sl_has_answer : Array (Option Value)} {oc_has_answer kV_has_answer dc_has_answer pm_has_answer cd_has_answer ct_has_answer : Value}
    {f_is_part : Addr} {od_is_part an_is_part : Option Addr} {sl_is_part : Array (Option Value)} {oc_is_part kV_is_part dc_is_part pm_is_part cd_is_part ct_is_part : Value}
    {f_count_members : Addr} {od_count_members an_count_members : Option Addr} {sl_count_members : Array (Option Value)} {oc_count_members kV_count_members dc_count_members pm_count_members cd_count_members ct_count_members : Value}
    {f_parts_of : Addr} {od_parts_of an_parts_of : Option Addr} {sl_parts_of : Array (Option Value)} {oc_parts_of kV_parts_of dc_parts_of pm_parts_of cd_parts_of ct_parts_of : Value}
    {f_still_open : Addr} {od_still_open an_still_open : Option Addr} {sl_still_open : Array (Option Value)} {oc_still_open kV_still_open dc_still_open pm_still_open cd_still_open ct_still_open : Value}
    {f_given_of_any : Addr} {od_given_of_any an_given_of_any : Option Addr} {sl_given_of_any : Array (Option Value)} {oc_given_of_any kV_given_of_any dc_given_of_any pm_given_of_any cd_given_of_any ct_given_of_any : Value}
    {f_given_of_each : Addr} {od_given_of_each an_given_of_each : Option Addr} {sl_given_of_each : Array (Option Value)} {oc_given_of_each kV_given_of_each dc_given_of_each pm_given_of_each cd_given_of_each ct_given_of_each : Value}
    {f_first_loss : Addr} {od_first_loss an_first_loss : Option Addr} {sl_first_loss : Array (Option Value)} {oc_first_loss kV_first_loss dc_first_loss pm_first_loss cd_first_loss ct_first_loss : Value}
    {f_first_surplus : Addr} {od_first_surplus an_first_surplus : Option Addr} {sl_first_surplus : Array (Option Value)} {oc_first_surplus kV_first_surplus dc_first_surplus pm_first_surplus cd_first_surplus ct_first_surplus : Value}
    {f_table_above : Addr} {od_table_above an_table_above : Option Addr} {sl_table_above : Array (Option Value)} {oc_table_above kV_table_above dc_table_above pm_table_above cd_table_above ct_table_above : Value}
    {f_table_below : Addr} {od_table_below an_table_below : Option Addr} {sl_table_below : Array (Option Value)} {oc_table_below kV_table_below dc_table_below pm_table_below cd_table_below ct_table_below : Value}
    {f_table_alone : Addr} {od_table_alone an_table_alone : Option Addr} {sl_table_alone : Array (Option Value)} {oc_table_alone kV_table_alone dc_table_alone pm_table_alone cd_table_alone ct_table_alone : Value}
    {f_least_sets : Addr} {od_least_sets an_least_sets : Option Addr} {sl_least_sets : Array (Option Value)} {oc_least_sets kV_least_sets dc_least_sets pm_least_sets cd_least_sets ct_least_sets : Value}
    {f_fewest_sealed : Addr} {od_fewest_sealed an_fewest_sealed : Option Addr} {sl_fewest_sealed : Array (Option Value)} {oc_fewest_sealed kV_fewest_sealed dc_fewest_sealed pm_fewest_sealed cd_fewest_sealed ct_fewest_sealed : Value}
    {f_steps_of : Addr} {od_steps_of an_steps_of : Option Addr} {sl_steps_of : Array (Option Value)} {oc_steps_of kV_steps_of dc_steps_of pm_steps_of cd_steps_of ct_steps_of : Value}
    {f_count_changes : Addr} {od_count_changes an_count_changes : Option Addr} {sl_count_changes : Array (Option Value)} {oc_count_changes kV_count_changes dc_count_changes pm_count_changes cd_count_changes ct_count_changes : Value}
    {f_yes_or_no : Addr} {od_yes_or_no an_yes_or_no : Option Addr} {sl_yes_or_no : Array (Option Value)} {oc_yes_or_no kV_yes_or_no dc_yes_or_no pm_yes_or_no cd_yes_or_no ct_yes_or_no : Value}
    {f_shown_or_refused : Addr} {od_shown_or_refused an_shown_or_refused : Option Addr} {sl_shown_or_refused : Array (Option Value)} {oc_shown_or_refused kV_shown_or_refused dc_shown_or_refused pm_shown_or_refused cd_shown_or_refused ct_shown_or_refused : Value}
    {f_is_row_of_answers : Addr} {od_is_row_of_answers an_is_row_of_answers : Option Addr} {sl_is_row_of_answers : Array (Option Value)} {oc_is_row_of_answers kV_is_row_of_answers dc_is_row_of_answers pm_is_row_of_answers cd_is_row_of_answers ct_is_row_of_answers : Value}
    {f_is_order : Addr} {od_is_order an_is_order : Option Addr} {sl_is_order : Array (Option Value)} {oc_is_order kV_is_order dc_is_order pm_is_order cd_is_order ct_is_order : Value}
    {f_is_known_and_sealed : Addr} {od_is_known_and_sealed an_is_known_and_sealed : Option Addr} {sl_is_known_and_sealed : Array (Option Value)} {oc_is_known_and_sealed kV_is_known_and_sealed dc_is_known_and_sealed pm_is_known_and_sealed cd_is_known_and_sealed ct_is_known_and_sealed : Value}
    {f_call_begin : Addr} {od_call_begin an_call_begin : Option Addr} {sl_call_begin : Array (Option Value)} {oc_call_begin kV_call_begin dc_call_begin pm_call_begin cd_call_begin ct_call_begin : Value}
    {f_call_answer : Addr} {od_call_answer an_call_answer : Option Addr} {sl_call_answer : Array (Option Value)} {oc_call_answer kV_call_answer dc_call_answer pm_call_answer cd_call_answer ct_call_answer : Value}
    {f_call_table : Addr} {od_call_table an_call_table : Option Addr} {sl_call_table : Array (Option Value)} {oc_call_table kV_call_table dc_call_table pm_call_table cd_call_table ct_call_table : Value}
    {f_call_behind : Addr} {od_call_behind an_call_behind : Option Addr} {sl_call_behind : Array (Option Value)} {oc_call_behind kV_call_behind dc_call_behind pm_call_behind cd_call_behind ct_call_behind : Value}
    {f_call_lift : Addr} {od_call_lift an_call_lift : Option Addr} {sl_call_lift : Array (Option Value)} {oc_call_lift kV_call_lift dc_call_lift pm_call_lift cd_call_lift ct_call_lift : Value}
    {f_call_sink : Addr} {od_call_sink an_call_sink : Option Addr} {sl_call_sink : Array (Option Value)} {oc_call_sink kV_call_sink dc_call_sink pm_call_sink cd_call_sink ct_call_sink : Value}
    {f_call_at : Addr} {od_call_at an_call_at : Option Addr} {sl_call_at : Array (Option Value)} {oc_call_at kV_call_at dc_call_at pm_call_at cd_call_at ct_call_at : Value}
    {f_call_grows : Addr} {od_call_grows an_call_grows : Option Addr} {sl_call_grows : Array (Option Value)} {oc_call_grows kV_call_grows dc_call_grows pm_call_grows cd_call_grows ct_call_grows : Value}
    {f_call_shrinks : Addr} {od_call_shrinks an_call_shrinks : Option Addr} {sl_call_shrinks : Array (Option Value)} {oc_call_shrinks kV_call_shrinks dc_call_shrinks pm_call_shrinks cd_call_shrinks ct_call_shrinks : Value}
    {f_call_adds : Addr} {od_call_adds an_call_adds : Option Addr} {sl_call_adds : Array (Option Value)} {oc_call_adds kV_call_adds dc_call_adds pm_call_adds cd_call_adds ct_call_adds : Value}
    {f_call_parts : Addr} {od_call_parts an_call_parts : Option Addr} {sl_call_parts : Array (Option Value)} {oc_call_parts kV_call_parts dc_call_parts pm_call_parts cd_call_parts ct_call_parts : Value}
    {f_call_grows_one : Addr} {od_call_grows_one an_call_grows_one : Option Addr} {sl_call_grows_one : Array (Option Value)} {oc_call_grows_one kV_call_grows_one dc_call_grows_one pm_call_grows_one cd_call_grows_one ct_call_grows_one : Value}
    {f_call_sure : Addr} {od_call_sure an_call_sure : Option Addr} {sl_call_sure : Array (Option Value)} {oc_call_sure kV_call_sure dc_call_sure pm_call_sure cd_call_sure ct_call_sure : Value}
    {f_call_may : Addr} {od_call_may an_call_may : Option Addr} {sl_call_may : Array (Option Value)} {oc_call_may kV_call_may dc_call_may pm_call_may cd_call_may ct_call_may : Value}
    {f_call_waits : Addr} {od_call_waits an_call_waits : Option Addr} {sl_call_waits : Array (Option Value)} {oc_call_waits kV_call_waits dc_call_waits pm_call_waits cd_call_waits ct_call_waits : Value}
    {f_call_told : Addr} {od_call_told an_call_told : Option Addr} {sl_call_told : Array (Option Value)} {oc_call_told kV_call_told dc_call_told pm_call_told cd_call_told ct_call_told : Value}
    {f_call_wrong : Addr} {od_call_wrong an_call_wrong : Option Addr} {sl_call_wrong : Array (Option Value)} {oc_call_wrong kV_call_wrong dc_call_wrong pm_call_wrong cd_call_wrong ct_call_wrong : Value}
    {f_call_worst : Addr} {od_call_worst an_call_worst : Option Addr} {sl_call_worst : Array (Option Value)} {oc_call_worst kV_call_worst dc_call_worst pm_call_worst cd_call_worst ct_call_worst : Value}
    {f_call_apart : Addr} {od_call_apart an_call_apart : Option Addr} {sl_call_apart : Array (Option Value)} {oc_call_apart kV_call_apart dc_call_apart pm_call_apart cd_call_apart ct_call_apart : Value}
    {f_call_least : Addr} {od_call_least an_call_least : Option Addr} {sl_call_least : Array (Option Value)} {oc_call_least kV_call_least dc_call_least pm_call_least cd_call_least ct_call_least : Value}
    {f_call_up : Addr} {od_call_up an_call_up : Option Addr} {sl_call_up : Array (Option Value)} {oc_call_up kV_call_up dc_call_up pm_call_up cd_call_up ct_call_up : Value}
    {f_call_down : Addr} {od_call_down an_call_down : Option Addr} {sl_call_down : Array (Option Value)} {oc_call_down kV_call_down dc_call_down pm_call_down cd_call_down ct_call_down : Value}
    {f_call_grade : Addr} {od_call_grade an_call_grade : Option Addr} {sl_call_grade : Array (Option Value)} {oc_call_grade kV_call_grade dc_call_grade pm_call_grade cd_call_grade ct_call_grade : Value}
    {f_call_state : Addr} {od_call_state an_call_state : Option Addr} {sl_call_state : Array (Option Value)} {oc_call_state kV_call_state dc_call_state pm_call_state cd_call_state ct_call_state : Value}
    {f_answer_call : Addr} {od_answer_call an_answer_call : Option Addr} {sl_answer_call : Array (Option Value)} {oc_answer_call kV_answer_call dc_answer_call pm_answer_call cd_answer_call ct_answer_call : Value}
    {f_numbers_start : Addr} {od_numbers_start an_numbers_start : Option Addr} {sl_numbers_start : Array (Option Value)} {oc_numbers_start kV_numbers_start dc_numbers_start pm_numbers_start cd_numbers_start ct_numbers_start : Value}
    {f_numbers_count : Addr} {od_numbers_count an_numbers_count : Option Addr} {sl_numbers_count : Array (Option Value)} {oc_numbers_count kV_numbers_count dc_numbers_count pm_numbers_count cd_numbers_count ct_numbers_count : Value}
    {f_answers : Addr} {od_answers an_answers : Option Addr} {sl_answers : Array (Option Value)} {oc_answers kV_answers dc_answers pm_answers cd_answers ct_answers : Value}
    {t_NOT_BEGUN : _}
    {t_NOT_AS_TOLD : _}
    {t_NO_SUCH_ANSWER : _}
    {t_NOTHING_TO_SHOW : _}
    {t_MOST_INPUTS : _}
    {t_MOST_ANSWERS : _}
    {t_BEGIN : _}
    {r_PLAIN_NUMBERS : Addr} {o_PLAIN_NUMBERS : Option Addr} {d_PLAIN_NUMBERS : Array Value} {n_PLAIN_NUMBERS : Nat} {s_PLAIN_NUMBERS : Array (Option Value)}
    {r_ROW_CALLS : Addr} {o_ROW_CALLS : Option Addr} {d_ROW_CALLS : Array Value} {n_ROW_CALLS : Nat} {s_ROW_CALLS : Array (Option Value)}
    {r_ACTIONS : Addr} {o_ACTIONS : Option Addr} {d_ACTIONS : Array Value} {n_ACTIONS : Nat} {s_ACTIONS : Array (Option Value)}
    (aC : PySem.W.nsIn K mainGlobals "Book" = some (some (.ref C)))
    (a___init__ : PySem.W.findIn K (.ref C) "__init__" = some (some (.ref f___init__)))
    (l___init__ : K.lookup f___init__ = some ⟨oc___init__, od___init__, .func (PySem.W.fnOf "__init__" "Book.__init__" (defArgs s___init__) (defBody s___init__) (defScope s___init__) .none kV___init__ dc___init__ pm___init__ an___init__ cd___init__ ct___init__), sl___init__⟩)
    (c___init__ : PySem.W.codeIn K cd___init__ "Book.__init__" = true)
    (k___init__ : PySem.W.keepIn K (.ref f___init__) = true)
    (i___init__ : PySem.W.isFn K (.ref f___init__) = true)
    (a_has_begun : PySem.W.findIn K (.ref C) "has_begun" = some (some (.ref f_has_begun)))
    (l_has_begun : K.lookup f_has_begun = some ⟨oc_has_begun, od_has_begun, .func (PySem.W.fnOf "has_begun" "Book.has_begun" (defArgs s_has_begun) (defBody s_has_begun) (defScope s_has_begun) .none kV_has_begun dc_has_begun pm_has_begun an_has_begun cd_has_begun ct_has_begun), sl_has_begun⟩)
    (c_has_begun : PySem.W.codeIn K cd_has_begun "Book.has_begun" = true)
    (k_has_begun : PySem.W.keepIn K (.ref f_has_begun) = true)
    (i_has_begun : PySem.W.isFn K (.ref f_has_begun) = true)
    (a_count_inputs : PySem.W.findIn K (.ref C) "count_inputs" = some (some (.ref f_count_inputs)))
    (l_count_inputs : K.lookup f_count_inputs = some ⟨oc_count_inputs, od_count_inputs, .func (PySem.W.fnOf "count_inputs" "Book.count_inputs" (defArgs s_count_inputs) (defBody s_count_inputs) (defScope s_count_inputs) .none kV_count_inputs dc_count_inputs pm_count_inputs an_count_inputs cd_count_inputs ct_count_inputs), sl_count_inputs⟩)
    (c_count_inputs : PySem.W.codeIn K cd_count_inputs "Book.count_inputs" = true)
    (k_count_inputs : PySem.W.keepIn K (.ref f_count_inputs) = true)
    (i_count_inputs : PySem.W.isFn K (.ref f_count_inputs) = true)
    (a_has_input : PySem.W.findIn K (.ref C) "has_input" = some (some (.ref f_has_input)))
    (l_has_input : K.lookup f_has_input = some ⟨oc_has_input, od_has_input, .func (PySem.W.fnOf "has_input" "Book.has_input" (defArgs s_has_input) (defBody s_has_input) (defScope s_has_input) .none kV_has_input dc_has_input pm_has_input an_has_input cd_has_input ct_has_input), sl_has_input⟩)
    (c_has_input : PySem.W.codeIn K cd_has_input "Book.has_input" = true)
    (k_has_input : PySem.W.keepIn K (.ref f_has_input) = true)
    (i_has_input : PySem.W.isFn K (.ref f_has_input) = true)
    (a_has_inputs : PySem.W.findIn K (.ref C) "has_inputs" = some (some (.ref f_has_inputs)))
    (l_has_inputs : K.lookup f_has_inputs = some ⟨oc_has_inputs, od_has_inputs, .func (PySem.W.fnOf "has_inputs" "Book.has_inputs" (defArgs s_has_inputs) (defBody s_has_inputs) (defScope s_has_inputs) .none kV_has_inputs dc_has_inputs pm_has_inputs an_has_inputs cd_has_inputs ct_has_inputs), sl_has_inputs⟩)
    (c_has_inputs : PySem.W.codeIn K cd_has_inputs "Book.has_inputs" = true)
    (k_has_inputs : PySem.W.keepIn K (.ref f_has_inputs) = true)
    (i_has_inputs : PySem.W.isFn K (.ref f_has_inputs) = true)
    (a_count_answer_sets : PySem.W.findIn K (.ref C) "count_answer_sets" = some (some (.ref f_count_answer_sets)))
    (l_count_answer_sets : K.lookup f_count_answer_sets = some ⟨oc_count_answer_sets, od_count_answer_sets, .func (PySem.W.fnOf "count_answer_sets" "Book.count_answer_sets" (defArgs s_count_answer_sets) (defBody s_count_answer_sets) (defScope s_count_answer_sets) .none kV_count_answer_sets dc_count_answer_sets pm_count_answer_sets an_count_answer_sets cd_count_answer_sets ct_count_answer_sets), sl_count_answer_sets⟩)
    (c_count_answer_sets : PySem.W.codeIn K cd_count_answer_sets "Book.count_answer_sets" = true)
    (k_count_answer_sets : PySem.W.keepIn K (.ref f_count_answer_sets) = true)
    (i_count_answer_sets : PySem.W.isFn K (.ref f_count_answer_sets) = true)
    (a_has_answers : PySem.W.findIn K (.ref C) "has_answers" = some (some (.ref f_has_answers)))
    (l_has_answers : K.lookup f_has_answers = some ⟨oc_has_answers, od_has_answers, .func (PySem.W.fnOf "has_answers" "Book.has_answers" (defArgs s_has_answers) (defBody s_has_answers) (defScope s_has_answers) .none kV_has_answers dc_has_answers pm_has_answers an_has_answers cd_has_answers ct_has_answers), sl_has_answers⟩)
    (c_has_answers : PySem.W.codeIn K cd_has_answers "Book.has_answers" = true)
    (k_has_answers : PySem.W.keepIn K (.ref f_has_answers) = true)
    (i_has_answers : PySem.W.isFn K (.ref f_has_answers) = true)
    (a_has_answer : PySem.W.findIn K (.ref C) "has_answer" = some (some (.ref f_has_answer)))
    (l_has_answer : K.lookup f_has_answer = some ⟨oc_has_answer, od_has_answer, .func (PySem.W.fnOf "has_answer" "Book.has_answer" (defArgs s_has_answer) (defBody s_has_answer) (defScope s_has_answer) .none kV_has_answer dc_has_answer pm_has_answer an_has_answer cd_has_answer ct_has_answer), sl_has_answer⟩)
    (c_has_answer : PySem.W.codeIn K cd_has_answer "Book.has_answer" = true)
    (k_has_answer : PySem.W.keepIn K (.ref f_has_answer) = true)
    (i_has_answer : PySem.W.isFn K (.ref f_has_answer) = true)
    (a_is_part : PySem.W.nsIn K mainGlobals "is_part" = some (some (.ref f_is_part)))
    (l_is_part : K.lookup f_is_part = some ⟨oc_is_part, od_is_part, .func (PySem.W.fnOf "is_part" "is_part" (defArgs s_is_part) (defBody s_is_part) (defScope s_is_part) .none kV_is_part dc_is_part pm_is_part an_is_part cd_is_part ct_is_part), sl_is_part⟩)
    (c_is_part : PySem.W.codeIn K cd_is_part "is_part" = true)
    (k_is_part : PySem.W.keepIn K (.ref f_is_part) = true)
    (a_count_members : PySem.W.nsIn K mainGlobals "count_members" = some (some (.ref f_count_members)))
    (l_count_members : K.lookup f_count_members = some ⟨oc_count_members, od_count_members, .func (PySem.W.fnOf "count_members" "count_members" (defArgs s_count_members) (defBody s_count_members) (defScope s_count_members) .none kV_count_members dc_count_members pm_count_members an_count_members cd_count_members ct_count_members), sl_count_members⟩)
    (c_count_members : PySem.W.codeIn K cd_count_members "count_members" = true)
    (k_count_members : PySem.W.keepIn K (.ref f_count_members) = true)
    (a_parts_of : PySem.W.nsIn K mainGlobals "parts_of" = some (some (.ref f_parts_of)))
    (l_parts_of : K.lookup f_parts_of = some ⟨oc_parts_of, od_parts_of, .func (PySem.W.fnOf "parts_of" "parts_of" (defArgs s_parts_of) (defBody s_parts_of) (defScope s_parts_of) .none kV_parts_of dc_parts_of pm_parts_of an_parts_of cd_parts_of ct_parts_of), sl_parts_of⟩)
    (c_parts_of : PySem.W.codeIn K cd_parts_of "parts_of" = true)
    (k_parts_of : PySem.W.keepIn K (.ref f_parts_of) = true)
    (a_still_open : PySem.W.nsIn K mainGlobals "still_open" = some (some (.ref f_still_open)))
    (l_still_open : K.lookup f_still_open = some ⟨oc_still_open, od_still_open, .func (PySem.W.fnOf "still_open" "still_open" (defArgs s_still_open) (defBody s_still_open) (defScope s_still_open) .none kV_still_open dc_still_open pm_still_open an_still_open cd_still_open ct_still_open), sl_still_open⟩)
    (c_still_open : PySem.W.codeIn K cd_still_open "still_open" = true)
    (k_still_open : PySem.W.keepIn K (.ref f_still_open) = true)
    (a_given_of_any : PySem.W.nsIn K mainGlobals "given_of_any" = some (some (.ref f_given_of_any)))
    (l_given_of_any : K.lookup f_given_of_any = some ⟨oc_given_of_any, od_given_of_any, .func (PySem.W.fnOf "given_of_any" "given_of_any" (defArgs s_given_of_any) (defBody s_given_of_any) (defScope s_given_of_any) .none kV_given_of_any dc_given_of_any pm_given_of_any an_given_of_any cd_given_of_any ct_given_of_any), sl_given_of_any⟩)
    (c_given_of_any : PySem.W.codeIn K cd_given_of_any "given_of_any" = true)
    (k_given_of_any : PySem.W.keepIn K (.ref f_given_of_any) = true)
    (a_given_of_each : PySem.W.nsIn K mainGlobals "given_of_each" = some (some (.ref f_given_of_each)))
    (l_given_of_each : K.lookup f_given_of_each = some ⟨oc_given_of_each, od_given_of_each, .func (PySem.W.fnOf "given_of_each" "given_of_each" (defArgs s_given_of_each) (defBody s_given_of_each) (defScope s_given_of_each) .none kV_given_of_each dc_given_of_each pm_given_of_each an_given_of_each cd_given_of_each ct_given_of_each), sl_given_of_each⟩)
    (c_given_of_each : PySem.W.codeIn K cd_given_of_each "given_of_each" = true)
    (k_given_of_each : PySem.W.keepIn K (.ref f_given_of_each) = true)
    (a_first_loss : PySem.W.nsIn K mainGlobals "first_loss" = some (some (.ref f_first_loss)))
    (l_first_loss : K.lookup f_first_loss = some ⟨oc_first_loss, od_first_loss, .func (PySem.W.fnOf "first_loss" "first_loss" (defArgs s_first_loss) (defBody s_first_loss) (defScope s_first_loss) .none kV_first_loss dc_first_loss pm_first_loss an_first_loss cd_first_loss ct_first_loss), sl_first_loss⟩)
    (c_first_loss : PySem.W.codeIn K cd_first_loss "first_loss" = true)
    (k_first_loss : PySem.W.keepIn K (.ref f_first_loss) = true)
    (a_first_surplus : PySem.W.nsIn K mainGlobals "first_surplus" = some (some (.ref f_first_surplus)))
    (l_first_surplus : K.lookup f_first_surplus = some ⟨oc_first_surplus, od_first_surplus, .func (PySem.W.fnOf "first_surplus" "first_surplus" (defArgs s_first_surplus) (defBody s_first_surplus) (defScope s_first_surplus) .none kV_first_surplus dc_first_surplus pm_first_surplus an_first_surplus cd_first_surplus ct_first_surplus), sl_first_surplus⟩)
    (c_first_surplus : PySem.W.codeIn K cd_first_surplus "first_surplus" = true)
    (k_first_surplus : PySem.W.keepIn K (.ref f_first_surplus) = true)
    (a_table_above : PySem.W.nsIn K mainGlobals "table_above" = some (some (.ref f_table_above)))
    (l_table_above : K.lookup f_table_above = some ⟨oc_table_above, od_table_above, .func (PySem.W.fnOf "table_above" "table_above" (defArgs s_table_above) (defBody s_table_above) (defScope s_table_above) .none kV_table_above dc_table_above pm_table_above an_table_above cd_table_above ct_table_above), sl_table_above⟩)
    (c_table_above : PySem.W.codeIn K cd_table_above "table_above" = true)
    (k_table_above : PySem.W.keepIn K (.ref f_table_above) = true)
    (a_table_below : PySem.W.nsIn K mainGlobals "table_below" = some (some (.ref f_table_below)))
    (l_table_below : K.lookup f_table_below = some ⟨oc_table_below, od_table_below, .func (PySem.W.fnOf "table_below" "table_below" (defArgs s_table_below) (defBody s_table_below) (defScope s_table_below) .none kV_table_below dc_table_below pm_table_below an_table_below cd_table_below ct_table_below), sl_table_below⟩)
    (c_table_below : PySem.W.codeIn K cd_table_below "table_below" = true)
    (k_table_below : PySem.W.keepIn K (.ref f_table_below) = true)
    (a_table_alone : PySem.W.nsIn K mainGlobals "table_alone" = some (some (.ref f_table_alone)))
    (l_table_alone : K.lookup f_table_alone = some ⟨oc_table_alone, od_table_alone, .func (PySem.W.fnOf "table_alone" "table_alone" (defArgs s_table_alone) (defBody s_table_alone) (defScope s_table_alone) .none kV_table_alone dc_table_alone pm_table_alone an_table_alone cd_table_alone ct_table_alone), sl_table_alone⟩)
    (c_table_alone : PySem.W.codeIn K cd_table_alone "table_alone" = true)
    (k_table_alone : PySem.W.keepIn K (.ref f_table_alone) = true)
    (a_least_sets : PySem.W.nsIn K mainGlobals "least_sets" = some (some (.ref f_least_sets)))
    (l_least_sets : K.lookup f_least_sets = some ⟨oc_least_sets, od_least_sets, .func (PySem.W.fnOf "least_sets" "least_sets" (defArgs s_least_sets) (defBody s_least_sets) (defScope s_least_sets) .none kV_least_sets dc_least_sets pm_least_sets an_least_sets cd_least_sets ct_least_sets), sl_least_sets⟩)
    (c_least_sets : PySem.W.codeIn K cd_least_sets "least_sets" = true)
    (k_least_sets : PySem.W.keepIn K (.ref f_least_sets) = true)
    (a_fewest_sealed : PySem.W.nsIn K mainGlobals "fewest_sealed" = some (some (.ref f_fewest_sealed)))
    (l_fewest_sealed : K.lookup f_fewest_sealed = some ⟨oc_fewest_sealed, od_fewest_sealed, .func (PySem.W.fnOf "fewest_sealed" "fewest_sealed" (defArgs s_fewest_sealed) (defBody s_fewest_sealed) (defScope s_fewest_sealed) .none kV_fewest_sealed dc_fewest_sealed pm_fewest_sealed an_fewest_sealed cd_fewest_sealed ct_fewest_sealed), sl_fewest_sealed⟩)
    (c_fewest_sealed : PySem.W.codeIn K cd_fewest_sealed "fewest_sealed" = true)
    (k_fewest_sealed : PySem.W.keepIn K (.ref f_fewest_sealed) = true)
    (a_steps_of : PySem.W.nsIn K mainGlobals "steps_of" = some (some (.ref f_steps_of)))
    (l_steps_of : K.lookup f_steps_of = some ⟨oc_steps_of, od_steps_of, .func (PySem.W.fnOf "steps_of" "steps_of" (defArgs s_steps_of) (defBody s_steps_of) (defScope s_steps_of) .none kV_steps_of dc_steps_of pm_steps_of an_steps_of cd_steps_of ct_steps_of), sl_steps_of⟩)
    (c_steps_of : PySem.W.codeIn K cd_steps_of "steps_of" = true)
    (k_steps_of : PySem.W.keepIn K (.ref f_steps_of) = true)
    (a_count_changes : PySem.W.nsIn K mainGlobals "count_changes" = some (some (.ref f_count_changes)))
    (l_count_changes : K.lookup f_count_changes = some ⟨oc_count_changes, od_count_changes, .func (PySem.W.fnOf "count_changes" "count_changes" (defArgs s_count_changes) (defBody s_count_changes) (defScope s_count_changes) .none kV_count_changes dc_count_changes pm_count_changes an_count_changes cd_count_changes ct_count_changes), sl_count_changes⟩)
    (c_count_changes : PySem.W.codeIn K cd_count_changes "count_changes" = true)
    (k_count_changes : PySem.W.keepIn K (.ref f_count_changes) = true)
    (a_yes_or_no : PySem.W.nsIn K mainGlobals "yes_or_no" = some (some (.ref f_yes_or_no)))
    (l_yes_or_no : K.lookup f_yes_or_no = some ⟨oc_yes_or_no, od_yes_or_no, .func (PySem.W.fnOf "yes_or_no" "yes_or_no" (defArgs s_yes_or_no) (defBody s_yes_or_no) (defScope s_yes_or_no) .none kV_yes_or_no dc_yes_or_no pm_yes_or_no an_yes_or_no cd_yes_or_no ct_yes_or_no), sl_yes_or_no⟩)
    (c_yes_or_no : PySem.W.codeIn K cd_yes_or_no "yes_or_no" = true)
    (k_yes_or_no : PySem.W.keepIn K (.ref f_yes_or_no) = true)
    (a_shown_or_refused : PySem.W.nsIn K mainGlobals "shown_or_refused" = some (some (.ref f_shown_or_refused)))
    (l_shown_or_refused : K.lookup f_shown_or_refused = some ⟨oc_shown_or_refused, od_shown_or_refused, .func (PySem.W.fnOf "shown_or_refused" "shown_or_refused" (defArgs s_shown_or_refused) (defBody s_shown_or_refused) (defScope s_shown_or_refused) .none kV_shown_or_refused dc_shown_or_refused pm_shown_or_refused an_shown_or_refused cd_shown_or_refused ct_shown_or_refused), sl_shown_or_refused⟩)
    (c_shown_or_refused : PySem.W.codeIn K cd_shown_or_refused "shown_or_refused" = true)
    (k_shown_or_refused : PySem.W.keepIn K (.ref f_shown_or_refused) = true)
    (a_is_row_of_answers : PySem.W.nsIn K mainGlobals "is_row_of_answers" = some (some (.ref f_is_row_of_answers)))
    (l_is_row_of_answers : K.lookup f_is_row_of_answers = some ⟨oc_is_row_of_answers, od_is_row_of_answers, .func (PySem.W.fnOf "is_row_of_answers" "is_row_of_answers" (defArgs s_is_row_of_answers) (defBody s_is_row_of_answers) (defScope s_is_row_of_answers) .none kV_is_row_of_answers dc_is_row_of_answers pm_is_row_of_answers an_is_row_of_answers cd_is_row_of_answers ct_is_row_of_answers), sl_is_row_of_answers⟩)
    (c_is_row_of_answers : PySem.W.codeIn K cd_is_row_of_answers "is_row_of_answers" = true)
    (k_is_row_of_answers : PySem.W.keepIn K (.ref f_is_row_of_answers) = true)
    (a_is_order : PySem.W.nsIn K mainGlobals "is_order" = some (some (.ref f_is_order)))
    (l_is_order : K.lookup f_is_order = some ⟨oc_is_order, od_is_order, .func (PySem.W.fnOf "is_order" "is_order" (defArgs s_is_order) (defBody s_is_order) (defScope s_is_order) .none kV_is_order dc_is_order pm_is_order an_is_order cd_is_order ct_is_order), sl_is_order⟩)
    (c_is_order : PySem.W.codeIn K cd_is_order "is_order" = true)
    (k_is_order : PySem.W.keepIn K (.ref f_is_order) = true)
    (a_is_known_and_sealed : PySem.W.nsIn K mainGlobals "is_known_and_sealed" = some (some (.ref f_is_known_and_sealed)))
    (l_is_known_and_sealed : K.lookup f_is_known_and_sealed = some ⟨oc_is_known_and_sealed, od_is_known_and_sealed, .func (PySem.W.fnOf "is_known_and_sealed" "is_known_and_sealed" (defArgs s_is_known_and_sealed) (defBody s_is_known_and_sealed) (defScope s_is_known_and_sealed) .none kV_is_known_and_sealed dc_is_known_and_sealed pm_is_known_and_sealed an_is_known_and_sealed cd_is_known_and_sealed ct_is_known_and_sealed), sl_is_known_and_sealed⟩)
    (c_is_known_and_sealed : PySem.W.codeIn K cd_is_known_and_sealed "is_known_and_sealed" = true)
    (k_is_known_and_sealed : PySem.W.keepIn K (.ref f_is_known_and_sealed) = true)
    (a_call_begin : PySem.W.nsIn K mainGlobals "call_begin" = some (some (.ref f_call_begin)))
    (l_call_begin : K.lookup f_call_begin = some ⟨oc_call_begin, od_call_begin, .func (PySem.W.fnOf "call_begin" "call_begin" (defArgs s_call_begin) (defBody s_call_begin) (defScope s_call_begin) .none kV_call_begin dc_call_begin pm_call_begin an_call_begin cd_call_begin ct_call_begin), sl_call_begin⟩)
    (c_call_begin : PySem.W.codeIn K cd_call_begin "call_begin" = true)
    (k_call_begin : PySem.W.keepIn K (.ref f_call_begin) = true)
    (a_call_answer : PySem.W.nsIn K mainGlobals "call_answer" = some (some (.ref f_call_answer)))
    (l_call_answer : K.lookup f_call_answer = some ⟨oc_call_answer, od_call_answer, .func (PySem.W.fnOf "call_answer" "call_answer" (defArgs s_call_answer) (defBody s_call_answer) (defScope s_call_answer) .none kV_call_answer dc_call_answer pm_call_answer an_call_answer cd_call_answer ct_call_answer), sl_call_answer⟩)
    (c_call_answer : PySem.W.codeIn K cd_call_answer "call_answer" = true)
    (k_call_answer : PySem.W.keepIn K (.ref f_call_answer) = true)
    (a_call_table : PySem.W.nsIn K mainGlobals "call_table" = some (some (.ref f_call_table)))
    (l_call_table : K.lookup f_call_table = some ⟨oc_call_table, od_call_table, .func (PySem.W.fnOf "call_table" "call_table" (defArgs s_call_table) (defBody s_call_table) (defScope s_call_table) .none kV_call_table dc_call_table pm_call_table an_call_table cd_call_table ct_call_table), sl_call_table⟩)
    (c_call_table : PySem.W.codeIn K cd_call_table "call_table" = true)
    (k_call_table : PySem.W.keepIn K (.ref f_call_table) = true)
    (a_call_behind : PySem.W.nsIn K mainGlobals "call_behind" = some (some (.ref f_call_behind)))
    (l_call_behind : K.lookup f_call_behind = some ⟨oc_call_behind, od_call_behind, .func (PySem.W.fnOf "call_behind" "call_behind" (defArgs s_call_behind) (defBody s_call_behind) (defScope s_call_behind) .none kV_call_behind dc_call_behind pm_call_behind an_call_behind cd_call_behind ct_call_behind), sl_call_behind⟩)
    (c_call_behind : PySem.W.codeIn K cd_call_behind "call_behind" = true)
    (k_call_behind : PySem.W.keepIn K (.ref f_call_behind) = true)
    (a_call_lift : PySem.W.nsIn K mainGlobals "call_lift" = some (some (.ref f_call_lift)))
    (l_call_lift : K.lookup f_call_lift = some ⟨oc_call_lift, od_call_lift, .func (PySem.W.fnOf "call_lift" "call_lift" (defArgs s_call_lift) (defBody s_call_lift) (defScope s_call_lift) .none kV_call_lift dc_call_lift pm_call_lift an_call_lift cd_call_lift ct_call_lift), sl_call_lift⟩)
    (c_call_lift : PySem.W.codeIn K cd_call_lift "call_lift" = true)
    (k_call_lift : PySem.W.keepIn K (.ref f_call_lift) = true)
    (a_call_sink : PySem.W.nsIn K mainGlobals "call_sink" = some (some (.ref f_call_sink)))
    (l_call_sink : K.lookup f_call_sink = some ⟨oc_call_sink, od_call_sink, .func (PySem.W.fnOf "call_sink" "call_sink" (defArgs s_call_sink) (defBody s_call_sink) (defScope s_call_sink) .none kV_call_sink dc_call_sink pm_call_sink an_call_sink cd_call_sink ct_call_sink), sl_call_sink⟩)
    (c_call_sink : PySem.W.codeIn K cd_call_sink "call_sink" = true)
    (k_call_sink : PySem.W.keepIn K (.ref f_call_sink) = true)
    (a_call_at : PySem.W.nsIn K mainGlobals "call_at" = some (some (.ref f_call_at)))
    (l_call_at : K.lookup f_call_at = some ⟨oc_call_at, od_call_at, .func (PySem.W.fnOf "call_at" "call_at" (defArgs s_call_at) (defBody s_call_at) (defScope s_call_at) .none kV_call_at dc_call_at pm_call_at an_call_at cd_call_at ct_call_at), sl_call_at⟩)
    (c_call_at : PySem.W.codeIn K cd_call_at "call_at" = true)
    (k_call_at : PySem.W.keepIn K (.ref f_call_at) = true)
    (a_call_grows : PySem.W.nsIn K mainGlobals "call_grows" = some (some (.ref f_call_grows)))
    (l_call_grows : K.lookup f_call_grows = some ⟨oc_call_grows, od_call_grows, .func (PySem.W.fnOf "call_grows" "call_grows" (defArgs s_call_grows) (defBody s_call_grows) (defScope s_call_grows) .none kV_call_grows dc_call_grows pm_call_grows an_call_grows cd_call_grows ct_call_grows), sl_call_grows⟩)
    (c_call_grows : PySem.W.codeIn K cd_call_grows "call_grows" = true)
    (k_call_grows : PySem.W.keepIn K (.ref f_call_grows) = true)
    (a_call_shrinks : PySem.W.nsIn K mainGlobals "call_shrinks" = some (some (.ref f_call_shrinks)))
    (l_call_shrinks : K.lookup f_call_shrinks = some ⟨oc_call_shrinks, od_call_shrinks, .func (PySem.W.fnOf "call_shrinks" "call_shrinks" (defArgs s_call_shrinks) (defBody s_call_shrinks) (defScope s_call_shrinks) .none kV_call_shrinks dc_call_shrinks pm_call_shrinks an_call_shrinks cd_call_shrinks ct_call_shrinks), sl_call_shrinks⟩)
    (c_call_shrinks : PySem.W.codeIn K cd_call_shrinks "call_shrinks" = true)
    (k_call_shrinks : PySem.W.keepIn K (.ref f_call_shrinks) = true)
    (a_call_adds : PySem.W.nsIn K mainGlobals "call_adds" = some (some (.ref f_call_adds)))
    (l_call_adds : K.lookup f_call_adds = some ⟨oc_call_adds, od_call_adds, .func (PySem.W.fnOf "call_adds" "call_adds" (defArgs s_call_adds) (defBody s_call_adds) (defScope s_call_adds) .none kV_call_adds dc_call_adds pm_call_adds an_call_adds cd_call_adds ct_call_adds), sl_call_adds⟩)
    (c_call_adds : PySem.W.codeIn K cd_call_adds "call_adds" = true)
    (k_call_adds : PySem.W.keepIn K (.ref f_call_adds) = true)
    (a_call_parts : PySem.W.nsIn K mainGlobals "call_parts" = some (some (.ref f_call_parts)))
    (l_call_parts : K.lookup f_call_parts = some ⟨oc_call_parts, od_call_parts, .func (PySem.W.fnOf "call_parts" "call_parts" (defArgs s_call_parts) (defBody s_call_parts) (defScope s_call_parts) .none kV_call_parts dc_call_parts pm_call_parts an_call_parts cd_call_parts ct_call_parts), sl_call_parts⟩)
    (c_call_parts : PySem.W.codeIn K cd_call_parts "call_parts" = true)
    (k_call_parts : PySem.W.keepIn K (.ref f_call_parts) = true)
    (a_call_grows_one : PySem.W.nsIn K mainGlobals "call_grows_one" = some (some (.ref f_call_grows_one)))
    (l_call_grows_one : K.lookup f_call_grows_one = some ⟨oc_call_grows_one, od_call_grows_one, .func (PySem.W.fnOf "call_grows_one" "call_grows_one" (defArgs s_call_grows_one) (defBody s_call_grows_one) (defScope s_call_grows_one) .none kV_call_grows_one dc_call_grows_one pm_call_grows_one an_call_grows_one cd_call_grows_one ct_call_grows_one), sl_call_grows_one⟩)
    (c_call_grows_one : PySem.W.codeIn K cd_call_grows_one "call_grows_one" = true)
    (k_call_grows_one : PySem.W.keepIn K (.ref f_call_grows_one) = true)
    (a_call_sure : PySem.W.nsIn K mainGlobals "call_sure" = some (some (.ref f_call_sure)))
    (l_call_sure : K.lookup f_call_sure = some ⟨oc_call_sure, od_call_sure, .func (PySem.W.fnOf "call_sure" "call_sure" (defArgs s_call_sure) (defBody s_call_sure) (defScope s_call_sure) .none kV_call_sure dc_call_sure pm_call_sure an_call_sure cd_call_sure ct_call_sure), sl_call_sure⟩)
    (c_call_sure : PySem.W.codeIn K cd_call_sure "call_sure" = true)
    (k_call_sure : PySem.W.keepIn K (.ref f_call_sure) = true)
    (a_call_may : PySem.W.nsIn K mainGlobals "call_may" = some (some (.ref f_call_may)))
    (l_call_may : K.lookup f_call_may = some ⟨oc_call_may, od_call_may, .func (PySem.W.fnOf "call_may" "call_may" (defArgs s_call_may) (defBody s_call_may) (defScope s_call_may) .none kV_call_may dc_call_may pm_call_may an_call_may cd_call_may ct_call_may), sl_call_may⟩)
    (c_call_may : PySem.W.codeIn K cd_call_may "call_may" = true)
    (k_call_may : PySem.W.keepIn K (.ref f_call_may) = true)
    (a_call_waits : PySem.W.nsIn K mainGlobals "call_waits" = some (some (.ref f_call_waits)))
    (l_call_waits : K.lookup f_call_waits = some ⟨oc_call_waits, od_call_waits, .func (PySem.W.fnOf "call_waits" "call_waits" (defArgs s_call_waits) (defBody s_call_waits) (defScope s_call_waits) .none kV_call_waits dc_call_waits pm_call_waits an_call_waits cd_call_waits ct_call_waits), sl_call_waits⟩)
    (c_call_waits : PySem.W.codeIn K cd_call_waits "call_waits" = true)
    (k_call_waits : PySem.W.keepIn K (.ref f_call_waits) = true)
    (a_call_told : PySem.W.nsIn K mainGlobals "call_told" = some (some (.ref f_call_told)))
    (l_call_told : K.lookup f_call_told = some ⟨oc_call_told, od_call_told, .func (PySem.W.fnOf "call_told" "call_told" (defArgs s_call_told) (defBody s_call_told) (defScope s_call_told) .none kV_call_told dc_call_told pm_call_told an_call_told cd_call_told ct_call_told), sl_call_told⟩)
    (c_call_told : PySem.W.codeIn K cd_call_told "call_told" = true)
    (k_call_told : PySem.W.keepIn K (.ref f_call_told) = true)
    (a_call_wrong : PySem.W.nsIn K mainGlobals "call_wrong" = some (some (.ref f_call_wrong)))
    (l_call_wrong : K.lookup f_call_wrong = some ⟨oc_call_wrong, od_call_wrong, .func (PySem.W.fnOf "call_wrong" "call_wrong" (defArgs s_call_wrong) (defBody s_call_wrong) (defScope s_call_wrong) .none kV_call_wrong dc_call_wrong pm_call_wrong an_call_wrong cd_call_wrong ct_call_wrong), sl_call_wrong⟩)
    (c_call_wrong : PySem.W.codeIn K cd_call_wrong "call_wrong" = true)
    (k_call_wrong : PySem.W.keepIn K (.ref f_call_wrong) = true)
    (a_call_worst : PySem.W.nsIn K mainGlobals "call_worst" = some (some (.ref f_call_worst)))
    (l_call_worst : K.lookup f_call_worst = some ⟨oc_call_worst, od_call_worst, .func (PySem.W.fnOf "call_worst" "call_worst" (defArgs s_call_worst) (defBody s_call_worst) (defScope s_call_worst) .none kV_call_worst dc_call_worst pm_call_worst an_call_worst cd_call_worst ct_call_worst), sl_call_worst⟩)
    (c_call_worst : PySem.W.codeIn K cd_call_worst "call_worst" = true)
    (k_call_worst : PySem.W.keepIn K (.ref f_call_worst) = true)
    (a_call_apart : PySem.W.nsIn K mainGlobals "call_apart" = some (some (.ref f_call_apart)))
    (l_call_apart : K.lookup f_call_apart = some ⟨oc_call_apart, od_call_apart, .func (PySem.W.fnOf "call_apart" "call_apart" (defArgs s_call_apart) (defBody s_call_apart) (defScope s_call_apart) .none kV_call_apart dc_call_apart pm_call_apart an_call_apart cd_call_apart ct_call_apart), sl_call_apart⟩)
    (c_call_apart : PySem.W.codeIn K cd_call_apart "call_apart" = true)
    (k_call_apart : PySem.W.keepIn K (.ref f_call_apart) = true)
    (a_call_least : PySem.W.nsIn K mainGlobals "call_least" = some (some (.ref f_call_least)))
    (l_call_least : K.lookup f_call_least = some ⟨oc_call_least, od_call_least, .func (PySem.W.fnOf "call_least" "call_least" (defArgs s_call_least) (defBody s_call_least) (defScope s_call_least) .none kV_call_least dc_call_least pm_call_least an_call_least cd_call_least ct_call_least), sl_call_least⟩)
    (c_call_least : PySem.W.codeIn K cd_call_least "call_least" = true)
    (k_call_least : PySem.W.keepIn K (.ref f_call_least) = true)
    (a_call_up : PySem.W.nsIn K mainGlobals "call_up" = some (some (.ref f_call_up)))
    (l_call_up : K.lookup f_call_up = some ⟨oc_call_up, od_call_up, .func (PySem.W.fnOf "call_up" "call_up" (defArgs s_call_up) (defBody s_call_up) (defScope s_call_up) .none kV_call_up dc_call_up pm_call_up an_call_up cd_call_up ct_call_up), sl_call_up⟩)
    (c_call_up : PySem.W.codeIn K cd_call_up "call_up" = true)
    (k_call_up : PySem.W.keepIn K (.ref f_call_up) = true)
    (a_call_down : PySem.W.nsIn K mainGlobals "call_down" = some (some (.ref f_call_down)))
    (l_call_down : K.lookup f_call_down = some ⟨oc_call_down, od_call_down, .func (PySem.W.fnOf "call_down" "call_down" (defArgs s_call_down) (defBody s_call_down) (defScope s_call_down) .none kV_call_down dc_call_down pm_call_down an_call_down cd_call_down ct_call_down), sl_call_down⟩)
    (c_call_down : PySem.W.codeIn K cd_call_down "call_down" = true)
    (k_call_down : PySem.W.keepIn K (.ref f_call_down) = true)
    (a_call_grade : PySem.W.nsIn K mainGlobals "call_grade" = some (some (.ref f_call_grade)))
    (l_call_grade : K.lookup f_call_grade = some ⟨oc_call_grade, od_call_grade, .func (PySem.W.fnOf "call_grade" "call_grade" (defArgs s_call_grade) (defBody s_call_grade) (defScope s_call_grade) .none kV_call_grade dc_call_grade pm_call_grade an_call_grade cd_call_grade ct_call_grade), sl_call_grade⟩)
    (c_call_grade : PySem.W.codeIn K cd_call_grade "call_grade" = true)
    (k_call_grade : PySem.W.keepIn K (.ref f_call_grade) = true)
    (a_call_state : PySem.W.nsIn K mainGlobals "call_state" = some (some (.ref f_call_state)))
    (l_call_state : K.lookup f_call_state = some ⟨oc_call_state, od_call_state, .func (PySem.W.fnOf "call_state" "call_state" (defArgs s_call_state) (defBody s_call_state) (defScope s_call_state) .none kV_call_state dc_call_state pm_call_state an_call_state cd_call_state ct_call_state), sl_call_state⟩)
    (c_call_state : PySem.W.codeIn K cd_call_state "call_state" = true)
    (k_call_state : PySem.W.keepIn K (.ref f_call_state) = true)
    (a_answer_call : PySem.W.nsIn K mainGlobals "answer_call" = some (some (.ref f_answer_call)))
    (l_answer_call : K.lookup f_answer_call = some ⟨oc_answer_call, od_answer_call, .func (PySem.W.fnOf "answer_call" "answer_call" (defArgs s_answer_call) (defBody s_answer_call) (defScope s_answer_call) .none kV_answer_call dc_answer_call pm_answer_call an_answer_call cd_answer_call ct_answer_call), sl_answer_call⟩)
    (c_answer_call : PySem.W.codeIn K cd_answer_call "answer_call" = true)
    (k_answer_call : PySem.W.keepIn K (.ref f_answer_call) = true)
    (a_numbers_start : PySem.W.nsIn K mainGlobals "numbers_start" = some (some (.ref f_numbers_start)))
    (l_numbers_start : K.lookup f_numbers_start = some ⟨oc_numbers_start, od_numbers_start, .func (PySem.W.fnOf "numbers_start" "numbers_start" (defArgs s_numbers_start) (defBody s_numbers_start) (defScope s_numbers_start) .none kV_numbers_start dc_numbers_start pm_numbers_start an_numbers_start cd_numbers_start ct_numbers_start), sl_numbers_start⟩)
    (c_numbers_start : PySem.W.codeIn K cd_numbers_start "numbers_start" = true)
    (k_numbers_start : PySem.W.keepIn K (.ref f_numbers_start) = true)
    (a_numbers_count : PySem.W.nsIn K mainGlobals "numbers_count" = some (some (.ref f_numbers_count)))
    (l_numbers_count : K.lookup f_numbers_count = some ⟨oc_numbers_count, od_numbers_count, .func (PySem.W.fnOf "numbers_count" "numbers_count" (defArgs s_numbers_count) (defBody s_numbers_count) (defScope s_numbers_count) .none kV_numbers_count dc_numbers_count pm_numbers_count an_numbers_count cd_numbers_count ct_numbers_count), sl_numbers_count⟩)
    (c_numbers_count : PySem.W.codeIn K cd_numbers_count "numbers_count" = true)
    (k_numbers_count : PySem.W.keepIn K (.ref f_numbers_count) = true)
    (a_answers : PySem.W.nsIn K mainGlobals "answers" = some (some (.ref f_answers)))
    (l_answers : K.lookup f_answers = some ⟨oc_answers, od_answers, .func (PySem.W.fnOf "answers" "answers" (defArgs s_answers) (defBody s_answers) (defScope s_answers) .none kV_answers dc_answers pm_answers an_answers cd_answers ct_answers), sl_answers⟩)
    (c_answers : PySem.W.codeIn K cd_answers "answers" = true)
    (k_answers : PySem.W.keepIn K (.ref f_answers) = true)
    (g_NOT_BEGUN : PySem.W.nsIn K mainGlobals "NOT_BEGUN" = some (some (.int (-61) t_NOT_BEGUN)))
    (g_NOT_AS_TOLD : PySem.W.nsIn K mainGlobals "NOT_AS_TOLD" = some (some (.int (-22) t_NOT_AS_TOLD)))
    (g_NO_SUCH_ANSWER : PySem.W.nsIn K mainGlobals "NO_SUCH_ANSWER" = some (some (.int (-2) t_NO_SUCH_ANSWER)))
    (g_NOTHING_TO_SHOW : PySem.W.nsIn K mainGlobals "NOTHING_TO_SHOW" = some (some (.int (-33) t_NOTHING_TO_SHOW)))
    (g_MOST_INPUTS : PySem.W.nsIn K mainGlobals "MOST_INPUTS" = some (some (.int (4) t_MOST_INPUTS)))
    (g_MOST_ANSWERS : PySem.W.nsIn K mainGlobals "MOST_ANSWERS" = some (some (.int (3) t_MOST_ANSWERS)))
    (g_BEGIN : PySem.W.nsIn K mainGlobals "BEGIN" = some (some (.int (0) t_BEGIN)))
    (g_PLAIN_NUMBERS : PySem.W.nsIn K mainGlobals "PLAIN_NUMBERS" = some (some (.ref r_PLAIN_NUMBERS)))
    (u_PLAIN_NUMBERS : K.lookup r_PLAIN_NUMBERS = some ⟨.type "tuple", o_PLAIN_NUMBERS, .seq d_PLAIN_NUMBERS n_PLAIN_NUMBERS, s_PLAIN_NUMBERS⟩)
    (v_PLAIN_NUMBERS : Vals (iv [2, 2, 0, 0, 0, 0, 1, 0, 0, 0, 0, 1, 2, 2, 2, 0, 0, 1, 0, 1, 0, 0, 0, 0]) d_PLAIN_NUMBERS.toList)
    (g_ROW_CALLS : PySem.W.nsIn K mainGlobals "ROW_CALLS" = some (some (.ref r_ROW_CALLS)))
    (u_ROW_CALLS : K.lookup r_ROW_CALLS = some ⟨.type "tuple", o_ROW_CALLS, .seq d_ROW_CALLS n_ROW_CALLS, s_ROW_CALLS⟩)
    (v_ROW_CALLS : Vals (iv [2, 3, 15, 16, 18]) d_ROW_CALLS.toList)
    (g_ACTIONS : PySem.W.nsIn K mainGlobals "ACTIONS" = some (some (.ref r_ACTIONS)))
    (u_ACTIONS : K.lookup r_ACTIONS = some ⟨.type "tuple", o_ACTIONS, .seq d_ACTIONS n_ACTIONS, s_ACTIONS⟩)
    (v_ACTIONS : Vals (([f_call_begin, f_call_answer, f_call_table, f_call_behind, f_call_lift, f_call_sink, f_call_at, f_call_grows, f_call_shrinks, f_call_adds, f_call_parts, f_call_grows_one, f_call_sure, f_call_may, f_call_waits, f_call_told, f_call_wrong, f_call_worst, f_call_apart, f_call_least, f_call_up, f_call_down, f_call_grade, f_call_state] : List Addr).map V.ref) d_ACTIONS.toList)
    (z_range : PySem.W.nsIn K mainGlobals "range" = some none)
    (z_len : PySem.W.nsIn K mainGlobals "len" = some none)
    (z_all : PySem.W.nsIn K mainGlobals "all" = some none)
    (z_list : PySem.W.nsIn K mainGlobals "list" = some none)
    (pg : PySem.W.plainGet K C Str.empty = true)
    (hd : PySem.W.hasDictIn K C = true)
    (po : PySem.W.plainOver K C = true)
    (sa : PySem.W.findIn K (.ref C) "__setattr__" = some (some (.builtin "object.__setattr__")))
    (mk : PySem.W.makesIn K C = true)
    (kc : PySem.W.keepIn K (.ref C) = true)
    (w_given : PySem.W.findIn K (.ref C) "given" = some none)
    (w_answer_count : PySem.W.findIn K (.ref C) "answer_count" = some none)
    : ∃ fd : FuncData, (∀ (s : Shared) (us : List Value), us.length = (["calls"] : List Str).length → BindsTo s fd ⟨us, []⟩ ((["calls"] : List Str).zip us)) ∧ ∀ base : Heap, K.In base → base.Ns mainGlobals mg → FnOk P w K mg base CX0 8 fa fd ["calls"] (spAnswers K 24) := by
  have e := hfa.symm.trans (PySem.W.mg_of X G a_answers)
  cases e
  -- Txt's fields: cl, n_given, n_answer_count, b_range, b_len, b_all, b_list, c_NOT_BEGUN, c_NOT_AS_TOLD, c_NO_SUCH_ANSWER, c_NOTHING_TO_SHOW, c_MOST_INPUTS, c_MOST_ANSWERS, c_BEGIN
  have T : Txt K mg C := { cl := ⟨pg, hd, po, sa⟩, n_given := w_given, n_answer_count := w_answer_count, b_range := PySem.W.mg_none_of X G z_range, b_len := PySem.W.mg_none_of X G z_len, b_all := PySem.W.mg_none_of X G z_all, b_list := PySem.W.mg_none_of X G z_list, c_NOT_BEGUN := ⟨_, PySem.W.mg_of X G g_NOT_BEGUN⟩, c_NOT_AS_TOLD := ⟨_, PySem.W.mg_of X G g_NOT_AS_TOLD⟩, c_NO_SUCH_ANSWER := ⟨_, PySem.W.mg_of X G g_NO_SUCH_ANSWER⟩, c_NOTHING_TO_SHOW := ⟨_, PySem.W.mg_of X G g_NOTHING_TO_SHOW⟩, c_MOST_INPUTS := ⟨_, PySem.W.mg_of X G g_MOST_INPUTS⟩, c_MOST_ANSWERS := ⟨_, PySem.W.mg_of X G g_MOST_ANSWERS⟩, c_BEGIN := ⟨_, PySem.W.mg_of X G g_BEGIN⟩ }
  have TT : Tab K mg r_ROW_CALLS r_PLAIN_NUMBERS r_ACTIONS [f_call_begin, f_call_answer, f_call_table, f_call_behind, f_call_lift, f_call_sink, f_call_at, f_call_grows, f_call_shrinks, f_call_adds, f_call_parts, f_call_grows_one, f_call_sure, f_call_may, f_call_waits, f_call_told, f_call_wrong, f_call_worst, f_call_apart, f_call_least, f_call_up, f_call_down, f_call_grade, f_call_state] := { c_PLAIN_NUMBERS := PySem.W.mg_of X G g_PLAIN_NUMBERS, t_PLAIN_NUMBERS := fun H => tup_of u_PLAIN_NUMBERS v_PLAIN_NUMBERS (Nat.le_of_ble_eq_true rfl), c_ROW_CALLS := PySem.W.mg_of X G g_ROW_CALLS, t_ROW_CALLS := fun H => tup_of u_ROW_CALLS v_ROW_CALLS (Nat.le_of_ble_eq_true rfl), c_ACTIONS := PySem.W.mg_of X G g_ACTIONS, t_ACTIONS := fun H => tup_of u_ACTIONS v_ACTIONS (Nat.le_of_ble_eq_true rfl) }
  have D___init__ : Dk K mg "Book" C "Book.__init__" s___init__ f___init__ ["self"] := ⟨⟨_, fun_mk l___init__ c___init__ k___init__, (fun_mk l___init__ c___init__ k___init__).binds (fun _ _ _ _ _ _ us hl => match us, hl with | [_], _ => rfl)⟩, ⟨mk, a___init__, i___init__, kc⟩, PySem.W.mg_of X G aC⟩
  have D_has_begun : Dm K C "has_begun" "Book.has_begun" s_has_begun f_has_begun ["self"] := ⟨⟨_, fun_mk l_has_begun c_has_begun k_has_begun, (fun_mk l_has_begun c_has_begun k_has_begun).binds (fun _ _ _ _ _ _ us hl => match us, hl with | [_], _ => rfl)⟩, ⟨a_has_begun, i_has_begun, k_has_begun⟩⟩
  have D_count_inputs : Dm K C "count_inputs" "Book.count_inputs" s_count_inputs f_count_inputs ["self"] := ⟨⟨_, fun_mk l_count_inputs c_count_inputs k_count_inputs, (fun_mk l_count_inputs c_count_inputs k_count_inputs).binds (fun _ _ _ _ _ _ us hl => match us, hl with | [_], _ => rfl)⟩, ⟨a_count_inputs, i_count_inputs, k_count_inputs⟩⟩
  have D_has_input : Dm K C "has_input" "Book.has_input" s_has_input f_has_input ["self", "k"] := ⟨⟨_, fun_mk l_has_input c_has_input k_has_input, (fun_mk l_has_input c_has_input k_has_input).binds (fun _ _ _ _ _ _ us hl => match us, hl with | [_, _], _ => rfl)⟩, ⟨a_has_input, i_has_input, k_has_input⟩⟩
  have D_has_inputs : Dm K C "has_inputs" "Book.has_inputs" s_has_inputs f_has_inputs ["self", "x"] := ⟨⟨_, fun_mk l_has_inputs c_has_inputs k_has_inputs, (fun_mk l_has_inputs c_has_inputs k_has_inputs).binds (fun _ _ _ _ _ _ us hl => match us, hl with | [_, _], _ => rfl)⟩, ⟨a_has_inputs, i_has_inputs, k_has_inputs⟩⟩
  have D_count_answer_sets : Dm K C "count_answer_sets" "Book.count_answer_sets" s_count_answer_sets f_count_answer_sets ["self"] := ⟨⟨_, fun_mk l_count_answer_sets c_count_answer_sets k_count_answer_sets, (fun_mk l_count_answer_sets c_count_answer_sets k_count_answer_sets).binds (fun _ _ _ _ _ _ us hl => match us, hl with | [_], _ => rfl)⟩, ⟨a_count_answer_sets, i_count_answer_sets, k_count_answer_sets⟩⟩
  have D_has_answers : Dm K C "has_answers" "Book.has_answers" s_has_answers f_has_answers ["self", "v"] := ⟨⟨_, fun_mk l_has_answers c_has_answers k_has_answers, (fun_mk l_has_answers c_has_answers k_has_answers).binds (fun _ _ _ _ _ _ us hl => match us, hl with | [_, _], _ => rfl)⟩, ⟨a_has_answers, i_has_answers, k_has_answers⟩⟩
  have D_has_answer : Dm K C "has_answer" "Book.has_answer" s_has_answer f_has_answer ["self", "o"] := ⟨⟨_, fun_mk l_has_answer c_has_answer k_has_answer, (fun_mk l_has_answer c_has_answer k_has_answer).binds (fun _ _ _ _ _ _ us hl => match us, hl with | [_, _], _ => rfl)⟩, ⟨a_has_answer, i_has_answer, k_has_answer⟩⟩
  have D_is_part : Dn K mg "is_part" s_is_part f_is_part ["x", "y"] := ⟨⟨_, fun_mk l_is_part c_is_part k_is_part, (fun_mk l_is_part c_is_part k_is_part).binds (fun _ _ _ _ _ _ us hl => match us, hl with | [_, _], _ => rfl)⟩, PySem.W.mg_of X G a_is_part⟩
  have D_count_members : Dn K mg "count_members" s_count_members f_count_members ["x"] := ⟨⟨_, fun_mk l_count_members c_count_members k_count_members, (fun_mk l_count_members c_count_members k_count_members).binds (fun _ _ _ _ _ _ us hl => match us, hl with | [_], _ => rfl)⟩, PySem.W.mg_of X G a_count_members⟩
  have D_parts_of : Dn K mg "parts_of" s_parts_of f_parts_of ["x"] := ⟨⟨_, fun_mk l_parts_of c_parts_of k_parts_of, (fun_mk l_parts_of c_parts_of k_parts_of).binds (fun _ _ _ _ _ _ us hl => match us, hl with | [_], _ => rfl)⟩, PySem.W.mg_of X G a_parts_of⟩
  have D_still_open : Dn K mg "still_open" s_still_open f_still_open ["given", "x", "z"] := ⟨⟨_, fun_mk l_still_open c_still_open k_still_open, (fun_mk l_still_open c_still_open k_still_open).binds (fun _ _ _ _ _ _ us hl => match us, hl with | [_, _, _], _ => rfl)⟩, PySem.W.mg_of X G a_still_open⟩
  have D_given_of_any : Dn K mg "given_of_any" s_given_of_any f_given_of_any ["given", "sets"] := ⟨⟨_, fun_mk l_given_of_any c_given_of_any k_given_of_any, (fun_mk l_given_of_any c_given_of_any k_given_of_any).binds (fun _ _ _ _ _ _ us hl => match us, hl with | [_, _], _ => rfl)⟩, PySem.W.mg_of X G a_given_of_any⟩
  have D_given_of_each : Dn K mg "given_of_each" s_given_of_each f_given_of_each ["given", "sets"] := ⟨⟨_, fun_mk l_given_of_each c_given_of_each k_given_of_each, (fun_mk l_given_of_each c_given_of_each k_given_of_each).binds (fun _ _ _ _ _ _ us hl => match us, hl with | [_, _], _ => rfl)⟩, PySem.W.mg_of X G a_given_of_each⟩
  have D_first_loss : Dn K mg "first_loss" s_first_loss f_first_loss ["given"] := ⟨⟨_, fun_mk l_first_loss c_first_loss k_first_loss, (fun_mk l_first_loss c_first_loss k_first_loss).binds (fun _ _ _ _ _ _ us hl => match us, hl with | [_], _ => rfl)⟩, PySem.W.mg_of X G a_first_loss⟩
  have D_first_surplus : Dn K mg "first_surplus" s_first_surplus f_first_surplus ["given"] := ⟨⟨_, fun_mk l_first_surplus c_first_surplus k_first_surplus, (fun_mk l_first_surplus c_first_surplus k_first_surplus).binds (fun _ _ _ _ _ _ us hl => match us, hl with | [_], _ => rfl)⟩, PySem.W.mg_of X G a_first_surplus⟩
  have D_table_above : Dn K mg "table_above" s_table_above f_table_above ["given"] := ⟨⟨_, fun_mk l_table_above c_table_above k_table_above, (fun_mk l_table_above c_table_above k_table_above).binds (fun _ _ _ _ _ _ us hl => match us, hl with | [_], _ => rfl)⟩, PySem.W.mg_of X G a_table_above⟩
  have D_table_below : Dn K mg "table_below" s_table_below f_table_below ["given"] := ⟨⟨_, fun_mk l_table_below c_table_below k_table_below, (fun_mk l_table_below c_table_below k_table_below).binds (fun _ _ _ _ _ _ us hl => match us, hl with | [_], _ => rfl)⟩, PySem.W.mg_of X G a_table_below⟩
  have D_table_alone : Dn K mg "table_alone" s_table_alone f_table_alone ["given", "o"] := ⟨⟨_, fun_mk l_table_alone c_table_alone k_table_alone, (fun_mk l_table_alone c_table_alone k_table_alone).binds (fun _ _ _ _ _ _ us hl => match us, hl with | [_, _], _ => rfl)⟩, PySem.W.mg_of X G a_table_alone⟩
  have D_least_sets : Dn K mg "least_sets" s_least_sets f_least_sets ["given", "o"] := ⟨⟨_, fun_mk l_least_sets c_least_sets k_least_sets, (fun_mk l_least_sets c_least_sets k_least_sets).binds (fun _ _ _ _ _ _ us hl => match us, hl with | [_, _], _ => rfl)⟩, PySem.W.mg_of X G a_least_sets⟩
  have D_fewest_sealed : Dn K mg "fewest_sealed" s_fewest_sealed f_fewest_sealed ["given", "x", "o"] := ⟨⟨_, fun_mk l_fewest_sealed c_fewest_sealed k_fewest_sealed, (fun_mk l_fewest_sealed c_fewest_sealed k_fewest_sealed).binds (fun _ _ _ _ _ _ us hl => match us, hl with | [_, _, _], _ => rfl)⟩, PySem.W.mg_of X G a_fewest_sealed⟩
  have D_steps_of : Dn K mg "steps_of" s_steps_of f_steps_of ["order"] := ⟨⟨_, fun_mk l_steps_of c_steps_of k_steps_of, (fun_mk l_steps_of c_steps_of k_steps_of).binds (fun _ _ _ _ _ _ us hl => match us, hl with | [_], _ => rfl)⟩, PySem.W.mg_of X G a_steps_of⟩
  have D_count_changes : Dn K mg "count_changes" s_count_changes f_count_changes ["old", "new"] := ⟨⟨_, fun_mk l_count_changes c_count_changes k_count_changes, (fun_mk l_count_changes c_count_changes k_count_changes).binds (fun _ _ _ _ _ _ us hl => match us, hl with | [_, _], _ => rfl)⟩, PySem.W.mg_of X G a_count_changes⟩
  have D_yes_or_no : Dn K mg "yes_or_no" s_yes_or_no f_yes_or_no ["holds"] := ⟨⟨_, fun_mk l_yes_or_no c_yes_or_no k_yes_or_no, (fun_mk l_yes_or_no c_yes_or_no k_yes_or_no).binds (fun _ _ _ _ _ _ us hl => match us, hl with | [_], _ => rfl)⟩, PySem.W.mg_of X G a_yes_or_no⟩
  have D_shown_or_refused : Dn K mg "shown_or_refused" s_shown_or_refused f_shown_or_refused ["found"] := ⟨⟨_, fun_mk l_shown_or_refused c_shown_or_refused k_shown_or_refused, (fun_mk l_shown_or_refused c_shown_or_refused k_shown_or_refused).binds (fun _ _ _ _ _ _ us hl => match us, hl with | [_], _ => rfl)⟩, PySem.W.mg_of X G a_shown_or_refused⟩
  have D_is_row_of_answers : Dn K mg "is_row_of_answers" s_is_row_of_answers f_is_row_of_answers ["book", "row", "length"] := ⟨⟨_, fun_mk l_is_row_of_answers c_is_row_of_answers k_is_row_of_answers, (fun_mk l_is_row_of_answers c_is_row_of_answers k_is_row_of_answers).binds (fun _ _ _ _ _ _ us hl => match us, hl with | [_, _, _], _ => rfl)⟩, PySem.W.mg_of X G a_is_row_of_answers⟩
  have D_is_order : Dn K mg "is_order" s_is_order f_is_order ["book", "row"] := ⟨⟨_, fun_mk l_is_order c_is_order k_is_order, (fun_mk l_is_order c_is_order k_is_order).binds (fun _ _ _ _ _ _ us hl => match us, hl with | [_, _], _ => rfl)⟩, PySem.W.mg_of X G a_is_order⟩
  have D_is_known_and_sealed : Dn K mg "is_known_and_sealed" s_is_known_and_sealed f_is_known_and_sealed ["book", "x", "z"] := ⟨⟨_, fun_mk l_is_known_and_sealed c_is_known_and_sealed k_is_known_and_sealed, (fun_mk l_is_known_and_sealed c_is_known_and_sealed k_is_known_and_sealed).binds (fun _ _ _ _ _ _ us hl => match us, hl with | [_, _, _], _ => rfl)⟩, PySem.W.mg_of X G a_is_known_and_sealed⟩
  have D_call_begin : Dn K mg "call_begin" s_call_begin f_call_begin ["book", "numbers"] := ⟨⟨_, fun_mk l_call_begin c_call_begin k_call_begin, (fun_mk l_call_begin c_call_begin k_call_begin).binds (fun _ _ _ _ _ _ us hl => match us, hl with | [_, _], _ => rfl)⟩, PySem.W.mg_of X G a_call_begin⟩
  have D_call_answer : Dn K mg "call_answer" s_call_answer f_call_answer ["book", "numbers"] := ⟨⟨_, fun_mk l_call_answer c_call_answer k_call_answer, (fun_mk l_call_answer c_call_answer k_call_answer).binds (fun _ _ _ _ _ _ us hl => match us, hl with | [_, _], _ => rfl)⟩, PySem.W.mg_of X G a_call_answer⟩
  have D_call_table : Dn K mg "call_table" s_call_table f_call_table ["book", "row"] := ⟨⟨_, fun_mk l_call_table c_call_table k_call_table, (fun_mk l_call_table c_call_table k_call_table).binds (fun _ _ _ _ _ _ us hl => match us, hl with | [_, _], _ => rfl)⟩, PySem.W.mg_of X G a_call_table⟩
  have D_call_behind : Dn K mg "call_behind" s_call_behind f_call_behind ["book", "row"] := ⟨⟨_, fun_mk l_call_behind c_call_behind k_call_behind, (fun_mk l_call_behind c_call_behind k_call_behind).binds (fun _ _ _ _ _ _ us hl => match us, hl with | [_, _], _ => rfl)⟩, PySem.W.mg_of X G a_call_behind⟩
  have D_call_lift : Dn K mg "call_lift" s_call_lift f_call_lift ["book", "numbers"] := ⟨⟨_, fun_mk l_call_lift c_call_lift k_call_lift, (fun_mk l_call_lift c_call_lift k_call_lift).binds (fun _ _ _ _ _ _ us hl => match us, hl with | [_, _], _ => rfl)⟩, PySem.W.mg_of X G a_call_lift⟩
  have D_call_sink : Dn K mg "call_sink" s_call_sink f_call_sink ["book", "numbers"] := ⟨⟨_, fun_mk l_call_sink c_call_sink k_call_sink, (fun_mk l_call_sink c_call_sink k_call_sink).binds (fun _ _ _ _ _ _ us hl => match us, hl with | [_, _], _ => rfl)⟩, PySem.W.mg_of X G a_call_sink⟩
  have D_call_at : Dn K mg "call_at" s_call_at f_call_at ["book", "numbers"] := ⟨⟨_, fun_mk l_call_at c_call_at k_call_at, (fun_mk l_call_at c_call_at k_call_at).binds (fun _ _ _ _ _ _ us hl => match us, hl with | [_, _], _ => rfl)⟩, PySem.W.mg_of X G a_call_at⟩
  have D_call_grows : Dn K mg "call_grows" s_call_grows f_call_grows ["book", "numbers"] := ⟨⟨_, fun_mk l_call_grows c_call_grows k_call_grows, (fun_mk l_call_grows c_call_grows k_call_grows).binds (fun _ _ _ _ _ _ us hl => match us, hl with | [_, _], _ => rfl)⟩, PySem.W.mg_of X G a_call_grows⟩
  have D_call_shrinks : Dn K mg "call_shrinks" s_call_shrinks f_call_shrinks ["book", "numbers"] := ⟨⟨_, fun_mk l_call_shrinks c_call_shrinks k_call_shrinks, (fun_mk l_call_shrinks c_call_shrinks k_call_shrinks).binds (fun _ _ _ _ _ _ us hl => match us, hl with | [_, _], _ => rfl)⟩, PySem.W.mg_of X G a_call_shrinks⟩
  have D_call_adds : Dn K mg "call_adds" s_call_adds f_call_adds ["book", "numbers"] := ⟨⟨_, fun_mk l_call_adds c_call_adds k_call_adds, (fun_mk l_call_adds c_call_adds k_call_adds).binds (fun _ _ _ _ _ _ us hl => match us, hl with | [_, _], _ => rfl)⟩, PySem.W.mg_of X G a_call_adds⟩
  have D_call_parts : Dn K mg "call_parts" s_call_parts f_call_parts ["book", "numbers"] := ⟨⟨_, fun_mk l_call_parts c_call_parts k_call_parts, (fun_mk l_call_parts c_call_parts k_call_parts).binds (fun _ _ _ _ _ _ us hl => match us, hl with | [_, _], _ => rfl)⟩, PySem.W.mg_of X G a_call_parts⟩
  have D_call_grows_one : Dn K mg "call_grows_one" s_call_grows_one f_call_grows_one ["book", "numbers"] := ⟨⟨_, fun_mk l_call_grows_one c_call_grows_one k_call_grows_one, (fun_mk l_call_grows_one c_call_grows_one k_call_grows_one).binds (fun _ _ _ _ _ _ us hl => match us, hl with | [_, _], _ => rfl)⟩, PySem.W.mg_of X G a_call_grows_one⟩
  have D_call_sure : Dn K mg "call_sure" s_call_sure f_call_sure ["book", "numbers"] := ⟨⟨_, fun_mk l_call_sure c_call_sure k_call_sure, (fun_mk l_call_sure c_call_sure k_call_sure).binds (fun _ _ _ _ _ _ us hl => match us, hl with | [_, _], _ => rfl)⟩, PySem.W.mg_of X G a_call_sure⟩
  have D_call_may : Dn K mg "call_may" s_call_may f_call_may ["book", "numbers"] := ⟨⟨_, fun_mk l_call_may c_call_may k_call_may, (fun_mk l_call_may c_call_may k_call_may).binds (fun _ _ _ _ _ _ us hl => match us, hl with | [_, _], _ => rfl)⟩, PySem.W.mg_of X G a_call_may⟩
  have D_call_waits : Dn K mg "call_waits" s_call_waits f_call_waits ["book", "numbers"] := ⟨⟨_, fun_mk l_call_waits c_call_waits k_call_waits, (fun_mk l_call_waits c_call_waits k_call_waits).binds (fun _ _ _ _ _ _ us hl => match us, hl with | [_, _], _ => rfl)⟩, PySem.W.mg_of X G a_call_waits⟩
  have D_call_told : Dn K mg "call_told" s_call_told f_call_told ["book", "row"] := ⟨⟨_, fun_mk l_call_told c_call_told k_call_told, (fun_mk l_call_told c_call_told k_call_told).binds (fun _ _ _ _ _ _ us hl => match us, hl with | [_, _], _ => rfl)⟩, PySem.W.mg_of X G a_call_told⟩
  have D_call_wrong : Dn K mg "call_wrong" s_call_wrong f_call_wrong ["book", "row"] := ⟨⟨_, fun_mk l_call_wrong c_call_wrong k_call_wrong, (fun_mk l_call_wrong c_call_wrong k_call_wrong).binds (fun _ _ _ _ _ _ us hl => match us, hl with | [_, _], _ => rfl)⟩, PySem.W.mg_of X G a_call_wrong⟩
  have D_call_worst : Dn K mg "call_worst" s_call_worst f_call_worst ["book", "numbers"] := ⟨⟨_, fun_mk l_call_worst c_call_worst k_call_worst, (fun_mk l_call_worst c_call_worst k_call_worst).binds (fun _ _ _ _ _ _ us hl => match us, hl with | [_, _], _ => rfl)⟩, PySem.W.mg_of X G a_call_worst⟩
  have D_call_apart : Dn K mg "call_apart" s_call_apart f_call_apart ["book", "row"] := ⟨⟨_, fun_mk l_call_apart c_call_apart k_call_apart, (fun_mk l_call_apart c_call_apart k_call_apart).binds (fun _ _ _ _ _ _ us hl => match us, hl with | [_, _], _ => rfl)⟩, PySem.W.mg_of X G a_call_apart⟩
  have D_call_least : Dn K mg "call_least" s_call_least f_call_least ["book", "numbers"] := ⟨⟨_, fun_mk l_call_least c_call_least k_call_least, (fun_mk l_call_least c_call_least k_call_least).binds (fun _ _ _ _ _ _ us hl => match us, hl with | [_, _], _ => rfl)⟩, PySem.W.mg_of X G a_call_least⟩
  have D_call_up : Dn K mg "call_up" s_call_up f_call_up ["book", "numbers"] := ⟨⟨_, fun_mk l_call_up c_call_up k_call_up, (fun_mk l_call_up c_call_up k_call_up).binds (fun _ _ _ _ _ _ us hl => match us, hl with | [_, _], _ => rfl)⟩, PySem.W.mg_of X G a_call_up⟩
  have D_call_down : Dn K mg "call_down" s_call_down f_call_down ["book", "numbers"] := ⟨⟨_, fun_mk l_call_down c_call_down k_call_down, (fun_mk l_call_down c_call_down k_call_down).binds (fun _ _ _ _ _ _ us hl => match us, hl with | [_, _], _ => rfl)⟩, PySem.W.mg_of X G a_call_down⟩
  have D_call_grade : Dn K mg "call_grade" s_call_grade f_call_grade ["book", "numbers"] := ⟨⟨_, fun_mk l_call_grade c_call_grade k_call_grade, (fun_mk l_call_grade c_call_grade k_call_grade).binds (fun _ _ _ _ _ _ us hl => match us, hl with | [_, _], _ => rfl)⟩, PySem.W.mg_of X G a_call_grade⟩
  have D_call_state : Dn K mg "call_state" s_call_state f_call_state ["book", "numbers"] := ⟨⟨_, fun_mk l_call_state c_call_state k_call_state, (fun_mk l_call_state c_call_state k_call_state).binds (fun _ _ _ _ _ _ us hl => match us, hl with | [_, _], _ => rfl)⟩, PySem.W.mg_of X G a_call_state⟩
  have D_answer_call : Dn K mg "answer_call" s_answer_call f_answer_call ["book", "number", "numbers"] := ⟨⟨_, fun_mk l_answer_call c_answer_call k_answer_call, (fun_mk l_answer_call c_answer_call k_answer_call).binds (fun _ _ _ _ _ _ us hl => match us, hl with | [_, _, _], _ => rfl)⟩, PySem.W.mg_of X G a_answer_call⟩
  have D_numbers_start : Dn K mg "numbers_start" s_numbers_start f_numbers_start ["calls", "start"] := ⟨⟨_, fun_mk l_numbers_start c_numbers_start k_numbers_start, (fun_mk l_numbers_start c_numbers_start k_numbers_start).binds (fun _ _ _ _ _ _ us hl => match us, hl with | [_, _], _ => rfl)⟩, PySem.W.mg_of X G a_numbers_start⟩
  have D_numbers_count : Dn K mg "numbers_count" s_numbers_count f_numbers_count ["calls", "start"] := ⟨⟨_, fun_mk l_numbers_count c_numbers_count k_numbers_count, (fun_mk l_numbers_count c_numbers_count k_numbers_count).binds (fun _ _ _ _ _ _ us hl => match us, hl with | [_, _], _ => rfl)⟩, PySem.W.mg_of X G a_numbers_count⟩
  refine ⟨PySem.W.fnOf "answers" "answers" (defArgs s_answers) (defBody s_answers) (defScope s_answers) .none kV_answers dc_answers pm_answers an_answers cd_answers ct_answers, fun s us hu => match us, hu with | [_], _ => .of_eq rfl, fun base _ _ => ?_⟩
  -- HERE: each def's promise, then the last one's FnOk
  have G_is_part := ok_is_part (P := P) (w := w) (base := base) D_is_part
  have G_count_members := ok_count_members (P := P) (w := w) (base := base) D_count_members
  have G_parts_of := ok_parts_of D_parts_of T G_is_part
  have G_still_open := ok_still_open D_still_open T G_is_part
  have G_given_of_any := ok_given_of_any (P := P) (w := w) (base := base) D_given_of_any
  have G_given_of_each := ok_given_of_each (P := P) (w := w) (base := base) D_given_of_each
  have G_first_loss := ok_first_loss D_first_loss T G_is_part
  have G_first_surplus := ok_first_surplus (P := P) (w := w) (base := base) D_first_surplus T
  have G_table_above := ok_table_above D_table_above T G_given_of_any G_parts_of
  have G_table_below := ok_table_below D_table_below T G_given_of_each G_still_open
  have G_table_alone := ok_table_alone (P := P) (w := w) (base := base) D_table_alone
  have G_least_sets := ok_least_sets D_least_sets T G_table_alone G_parts_of G_given_of_any
  have G_fewest_sealed := ok_fewest_sealed D_fewest_sealed T G_table_alone G_still_open G_given_of_each G_count_members
  have G_steps_of := ok_steps_of (P := P) (w := w) (base := base) D_steps_of
  have G_Book := ok___init__ (P := P) (w := w) (base := base) D___init__ T
  have M_has_begun := ok_has_begun (P := P) (w := w) (mg := mg) (base := base) D_has_begun T
  have M_count_inputs := ok_count_inputs (P := P) (w := w) (mg := mg) (base := base) D_count_inputs T
  have M_has_input := ok_has_input D_has_input T M_count_inputs
  have M_has_inputs := ok_has_inputs (P := P) (w := w) (mg := mg) (base := base) D_has_inputs T
  have M_count_answer_sets := ok_count_answer_sets (P := P) (w := w) (mg := mg) (base := base) D_count_answer_sets T
  have M_has_answers := ok_has_answers D_has_answers T M_count_answer_sets
  have M_has_answer := ok_has_answer (P := P) (w := w) (mg := mg) (base := base) D_has_answer T
  have G_count_changes := ok_count_changes (P := P) (w := w) (base := base) D_count_changes T
  have G_yes_or_no := ok_yes_or_no (P := P) (w := w) (base := base) D_yes_or_no
  have G_shown_or_refused := ok_shown_or_refused (P := P) (w := w) (base := base) D_shown_or_refused T
  have G_is_row_of_answers := ok_is_row_of_answers D_is_row_of_answers T M_has_answers
  have G_is_order := ok_is_order D_is_order T M_has_input
  have G_is_known_and_sealed := ok_is_known_and_sealed D_is_known_and_sealed M_has_inputs
  have A0 := (ok_call_begin (P := P) (w := w) (base := base) D_call_begin T).up (k := 6) (by decide)
  have A1 := (ok_call_answer D_call_answer T M_has_inputs M_has_answers).up (k := 6) (by decide)
  have A2 := (ok_call_table D_call_table T G_is_row_of_answers).up (k := 6) (by decide)
  have A3 := (ok_call_behind D_call_behind T G_is_row_of_answers M_count_answer_sets).up (k := 6) (by decide)
  have A4 := (ok_call_lift D_call_lift T G_table_above G_count_changes).up (k := 6) (by decide)
  have A5 := (ok_call_sink D_call_sink T G_table_below G_count_changes).up (k := 6) (by decide)
  have A6 := (ok_call_at D_call_at T M_has_inputs).up (k := 6) (by decide)
  have A7 := (ok_call_grows D_call_grows T G_first_loss G_yes_or_no).up (k := 6) (by decide)
  have A8 := (ok_call_shrinks D_call_shrinks T G_first_loss G_shown_or_refused).up (k := 6) (by decide)
  have A9 := (ok_call_adds D_call_adds T G_first_surplus G_yes_or_no).up (k := 6) (by decide)
  have A10 := (ok_call_parts D_call_parts T G_first_surplus G_shown_or_refused).up (k := 6) (by decide)
  have A11 := (ok_call_grows_one D_call_grows_one T M_has_answer G_first_loss G_yes_or_no G_table_alone).up (k := 6) (by decide)
  have A12 := (ok_call_sure D_call_sure T G_given_of_each G_still_open G_is_known_and_sealed).up (k := 6) (by decide)
  have A13 := (ok_call_may D_call_may T G_given_of_any G_still_open G_is_known_and_sealed).up (k := 6) (by decide)
  have A14 := (ok_call_waits D_call_waits T M_has_answer M_has_inputs G_fewest_sealed).up (k := 6) (by decide)
  have A15 := (ok_call_told D_call_told T G_is_order G_steps_of).up (k := 6) (by decide)
  have A16 := (ok_call_wrong D_call_wrong T G_is_order G_steps_of G_given_of_any).up (k := 6) (by decide)
  have A17 := (ok_call_worst D_call_worst T M_has_inputs G_given_of_any G_parts_of).up (k := 6) (by decide)
  have A18 := (ok_call_apart D_call_apart T M_has_inputs G_given_of_any).up (k := 6) (by decide)
  have A19 := (ok_call_least D_call_least T M_has_answer G_least_sets).up (k := 6) (by decide)
  have A20 := (ok_call_up D_call_up T G_table_above).up (k := 6) (by decide)
  have A21 := (ok_call_down D_call_down T G_table_below).up (k := 6) (by decide)
  have A22 := (ok_call_grade D_call_grade T G_first_surplus G_first_loss).up (k := 6) (by decide)
  have A23 := (ok_call_state D_call_state T M_count_inputs).up (k := 6) (by decide)
  have G_answer_call := ok_answer_call (lim := 24) (by decide) D_answer_call T TT M_has_begun (fun p hp => match p, hp with
    | 0, _ => ⟨_, _, rfl, A0⟩
    | 1, _ => ⟨_, _, rfl, A1⟩
    | 2, _ => ⟨_, _, rfl, A2⟩
    | 3, _ => ⟨_, _, rfl, A3⟩
    | 4, _ => ⟨_, _, rfl, A4⟩
    | 5, _ => ⟨_, _, rfl, A5⟩
    | 6, _ => ⟨_, _, rfl, A6⟩
    | 7, _ => ⟨_, _, rfl, A7⟩
    | 8, _ => ⟨_, _, rfl, A8⟩
    | 9, _ => ⟨_, _, rfl, A9⟩
    | 10, _ => ⟨_, _, rfl, A10⟩
    | 11, _ => ⟨_, _, rfl, A11⟩
    | 12, _ => ⟨_, _, rfl, A12⟩
    | 13, _ => ⟨_, _, rfl, A13⟩
    | 14, _ => ⟨_, _, rfl, A14⟩
    | 15, _ => ⟨_, _, rfl, A15⟩
    | 16, _ => ⟨_, _, rfl, A16⟩
    | 17, _ => ⟨_, _, rfl, A17⟩
    | 18, _ => ⟨_, _, rfl, A18⟩
    | 19, _ => ⟨_, _, rfl, A19⟩
    | 20, _ => ⟨_, _, rfl, A20⟩
    | 21, _ => ⟨_, _, rfl, A21⟩
    | 22, _ => ⟨_, _, rfl, A22⟩
    | 23, _ => ⟨_, _, rfl, A23⟩
    | p + 24, h => absurd h (by omega))
  have G_numbers_start := ok_numbers_start (P := P) (w := w) (base := base) D_numbers_start TT
  have G_numbers_count := ok_numbers_count (P := P) (w := w) (base := base) D_numbers_count TT
  exact fnok_of (by decide) (fun_mk l_answers c_answers k_answers) T G_Book G_numbers_start G_numbers_count G_answer_call
end Ga
open PySem PySem.W PyProof.Rows
set_option maxRecDepth 100000 in
set_option maxHeartbeats 0 in
theorem PySem.Challenge.cw_growinganswers_s01_answers_holds : PySem.Challenge.rw_growinganswers_s01_answers.Holds := by
  w_on; k_headS; (case hw => exact ⟨[.list [.int 4]], by decide +kernel, by decide +kernel⟩)
  k_fillS
  refine L2.walk_specK (r := PySem.Challenge.rw_growinganswers_s01_answers) (k := 8) (CX := L2.CX0) (ps := ["calls"]) (sp := fun K => Ga.spAnswers K 24) (by decide +kernel) rfl rfl ⟨rfl, by decide, by decide⟩ (fun w h Y => PySem.W.kIn_of Y) ?F ?S (fun _ _ _ _ z => z)
  case F =>
    intro w mg fa h Y KX G hmg
    refine' Ga.all_mk KX G hmg ?aC ?a___init__ ?l___init__ ?c___init__ ?k___init__ ?i___init__ ?a_has_begun ?l_has_begun ?c_has_begun ?k_has_begun ?i_has_begun ?a_count_inputs ?l_count_inputs ?c_count_inputs ?k_count_inputs ?i_count_inputs ?a_has_input ?l_has_input ?c_has_input ?k_has_input ?i_has_input ?a_has_inputs ?l_has_inputs ?c_has_inputs ?k_has_inputs ?i_has_inputs ?a_count_answer_sets ?l_count_answer_sets ?c_count_answer_sets ?k_count_answer_sets ?i_count_answer_sets ?a_has_answers ?l_has_answers ?c_has_answers ?k_has_answers ?i_has_answers ?a_has_answer ?l_has_answer ?c_has_answer ?k_has_answer ?i_has_answer ?a_is_part ?l_is_part ?c_is_part ?k_is_part ?a_count_members ?l_count_members ?c_count_members ?k_count_members ?a_parts_of ?l_parts_of ?c_parts_of ?k_parts_of ?a_still_open ?l_still_open ?c_still_open ?k_still_open ?a_given_of_any ?l_given_of_any ?c_given_of_any ?k_given_of_any ?a_given_of_each ?l_given_of_each ?c_given_of_each ?k_given_of_each ?a_first_loss ?l_first_loss ?c_first_loss ?k_first_loss ?a_first_surplus ?l_first_surplus ?c_first_surplus ?k_first_surplus ?a_table_above ?l_table_above ?c_table_above ?k_table_above ?a_table_below ?l_table_below ?c_table_below ?k_table_below ?a_table_alone ?l_table_alone ?c_table_alone ?k_table_alone ?a_least_sets ?l_least_sets ?c_least_sets ?k_least_sets ?a_fewest_sealed ?l_fewest_sealed ?c_fewest_sealed ?k_fewest_sealed ?a_steps_of ?l_steps_of ?c_steps_of ?k_steps_of ?a_count_changes ?l_count_changes ?c_count_changes ?k_count_changes ?a_yes_or_no ?l_yes_or_no ?c_yes_or_no ?k_yes_or_no ?a_shown_or_refused ?l_shown_or_refused ?c_shown_or_refused ?k_shown_or_refused ?a_is_row_of_answers ?l_is_row_of_answers ?c_is_row_of_answers ?k_is_row_of_answers ?a_is_order ?l_is_order ?c_is_order ?k_is_order ?a_is_known_and_sealed ?l_is_known_and_sealed ?c_is_known_and_sealed ?k_is_known_and_sealed ?a_call_begin ?l_call_begin ?c_call_begin ?k_call_begin ?a_call_answer ?l_call_answer ?c_call_answer ?k_call_answer ?a_call_table ?l_call_table ?c_call_table ?k_call_table ?a_call_behind ?l_call_behind ?c_call_behind ?k_call_behind ?a_call_lift ?l_call_lift ?c_call_lift ?k_call_lift ?a_call_sink ?l_call_sink ?c_call_sink ?k_call_sink ?a_call_at ?l_call_at ?c_call_at ?k_call_at ?a_call_grows ?l_call_grows ?c_call_grows ?k_call_grows ?a_call_shrinks ?l_call_shrinks ?c_call_shrinks ?k_call_shrinks ?a_call_adds ?l_call_adds ?c_call_adds ?k_call_adds ?a_call_parts ?l_call_parts ?c_call_parts ?k_call_parts ?a_call_grows_one ?l_call_grows_one ?c_call_grows_one ?k_call_grows_one ?a_call_sure ?l_call_sure ?c_call_sure ?k_call_sure ?a_call_may ?l_call_may ?c_call_may ?k_call_may ?a_call_waits ?l_call_waits ?c_call_waits ?k_call_waits ?a_call_told ?l_call_told ?c_call_told ?k_call_told ?a_call_wrong ?l_call_wrong ?c_call_wrong ?k_call_wrong ?a_call_worst ?l_call_worst ?c_call_worst ?k_call_worst ?a_call_apart ?l_call_apart ?c_call_apart ?k_call_apart ?a_call_least ?l_call_least ?c_call_least ?k_call_least ?a_call_up ?l_call_up ?c_call_up ?k_call_up ?a_call_down ?l_call_down ?c_call_down ?k_call_down ?a_call_grade ?l_call_grade ?c_call_grade ?k_call_grade ?a_call_state ?l_call_state ?c_call_state ?k_call_state ?a_answer_call ?l_answer_call ?c_answer_call ?k_answer_call ?a_numbers_start ?l_numbers_start ?c_numbers_start ?k_numbers_start ?a_numbers_count ?l_numbers_count ?c_numbers_count ?k_numbers_count ?a_answers ?l_answers ?c_answers ?k_answers ?g_NOT_BEGUN ?g_NOT_AS_TOLD ?g_NO_SUCH_ANSWER ?g_NOTHING_TO_SHOW ?g_MOST_INPUTS ?g_MOST_ANSWERS ?g_BEGIN ?g_PLAIN_NUMBERS ?u_PLAIN_NUMBERS ?v_PLAIN_NUMBERS ?g_ROW_CALLS ?u_ROW_CALLS ?v_ROW_CALLS ?g_ACTIONS ?u_ACTIONS ?v_ACTIONS ?z_range ?z_len ?z_all ?z_list ?pg ?hd ?po ?sa ?mk ?kc ?w_given ?w_answer_count
    case aC => k_is
    case a___init__ => k_is
    case l___init__ => k_is
    case c___init__ => k_is
    case k___init__ => k_is
    case i___init__ => k_is
    case a_has_begun => k_is
    case l_has_begun => k_is
    case c_has_begun => k_is
    case k_has_begun => k_is
    case i_has_begun => k_is
    case a_count_inputs => k_is
    case l_count_inputs => k_is
    case c_count_inputs => k_is
    case k_count_inputs => k_is
    case i_count_inputs => k_is
    case a_has_input => k_is
    case l_has_input => k_is
    case c_has_input => k_is
    case k_has_input => k_is
    case i_has_input => k_is
    case a_has_inputs => k_is
    case l_has_inputs => k_is
    case c_has_inputs => k_is
    case k_has_inputs => k_is
    case i_has_inputs => k_is
    case a_count_answer_sets => k_is
    case l_count_answer_sets => k_is
    case c_count_answer_sets => k_is
    case k_count_answer_sets => k_is
    case i_count_answer_sets => k_is
    case a_has_answers => k_is
    case l_has_answers => k_is
    case c_has_answers => k_is
    case k_has_answers => k_is
    case i_has_answers => k_is
    case a_has_answer => k_is
    case l_has_answer => k_is
    case c_has_answer => k_is
    case k_has_answer => k_is
    case i_has_answer => k_is
    case a_is_part => k_is
    case l_is_part => k_is
    case c_is_part => k_is
    case k_is_part => k_is
    case a_count_members => k_is
    case l_count_members => k_is
    case c_count_members => k_is
    case k_count_members => k_is
    case a_parts_of => k_is
    case l_parts_of => k_is
    case c_parts_of => k_is
    case k_parts_of => k_is
    case a_still_open => k_is
    case l_still_open => k_is
    case c_still_open => k_is
    case k_still_open => k_is
    case a_given_of_any => k_is
    case l_given_of_any => k_is
    case c_given_of_any => k_is
    case k_given_of_any => k_is
    case a_given_of_each => k_is
    case l_given_of_each => k_is
    case c_given_of_each => k_is
    case k_given_of_each => k_is
    case a_first_loss => k_is
    case l_first_loss => k_is
    case c_first_loss => k_is
    case k_first_loss => k_is
    case a_first_surplus => k_is
    case l_first_surplus => k_is
    case c_first_surplus => k_is
    case k_first_surplus => k_is
    case a_table_above => k_is
    case l_table_above => k_is
    case c_table_above => k_is
    case k_table_above => k_is
    case a_table_below => k_is
    case l_table_below => k_is
    case c_table_below => k_is
    case k_table_below => k_is
    case a_table_alone => k_is
    case l_table_alone => k_is
    case c_table_alone => k_is
    case k_table_alone => k_is
    case a_least_sets => k_is
    case l_least_sets => k_is
    case c_least_sets => k_is
    case k_least_sets => k_is
    case a_fewest_sealed => k_is
    case l_fewest_sealed => k_is
    case c_fewest_sealed => k_is
    case k_fewest_sealed => k_is
    case a_steps_of => k_is
    case l_steps_of => k_is
    case c_steps_of => k_is
    case k_steps_of => k_is
    case a_count_changes => k_is
    case l_count_changes => k_is
    case c_count_changes => k_is
    case k_count_changes => k_is
    case a_yes_or_no => k_is
    case l_yes_or_no => k_is
    case c_yes_or_no => k_is
    case k_yes_or_no => k_is
    case a_shown_or_refused => k_is
    case l_shown_or_refused => k_is
    case c_shown_or_refused => k_is
    case k_shown_or_refused => k_is
    case a_is_row_of_answers => k_is
    case l_is_row_of_answers => k_is
    case c_is_row_of_answers => k_is
    case k_is_row_of_answers => k_is
    case a_is_order => k_is
    case l_is_order => k_is
    case c_is_order => k_is
    case k_is_order => k_is
    case a_is_known_and_sealed => k_is
    case l_is_known_and_sealed => k_is
    case c_is_known_and_sealed => k_is
    case k_is_known_and_sealed => k_is
    case a_call_begin => k_is
    case l_call_begin => k_is
    case c_call_begin => k_is
    case k_call_begin => k_is
    case a_call_answer => k_is
    case l_call_answer => k_is
    case c_call_answer => k_is
    case k_call_answer => k_is
    case a_call_table => k_is
    case l_call_table => k_is
    case c_call_table => k_is
    case k_call_table => k_is
    case a_call_behind => k_is
    case l_call_behind => k_is
    case c_call_behind => k_is
    case k_call_behind => k_is
    case a_call_lift => k_is
    case l_call_lift => k_is
    case c_call_lift => k_is
    case k_call_lift => k_is
    case a_call_sink => k_is
    case l_call_sink => k_is
    case c_call_sink => k_is
    case k_call_sink => k_is
    case a_call_at => k_is
    case l_call_at => k_is
    case c_call_at => k_is
    case k_call_at => k_is
    case a_call_grows => k_is
    case l_call_grows => k_is
    case c_call_grows => k_is
    case k_call_grows => k_is
    case a_call_shrinks => k_is
    case l_call_shrinks => k_is
    case c_call_shrinks => k_is
    case k_call_shrinks => k_is
    case a_call_adds => k_is
    case l_call_adds => k_is
    case c_call_adds => k_is
    case k_call_adds => k_is
    case a_call_parts => k_is
    case l_call_parts => k_is
    case c_call_parts => k_is
    case k_call_parts => k_is
    case a_call_grows_one => k_is
    case l_call_grows_one => k_is
    case c_call_grows_one => k_is
    case k_call_grows_one => k_is
    case a_call_sure => k_is
    case l_call_sure => k_is
    case c_call_sure => k_is
    case k_call_sure => k_is
    case a_call_may => k_is
    case l_call_may => k_is
    case c_call_may => k_is
    case k_call_may => k_is
    case a_call_waits => k_is
    case l_call_waits => k_is
    case c_call_waits => k_is
    case k_call_waits => k_is
    case a_call_told => k_is
    case l_call_told => k_is
    case c_call_told => k_is
    case k_call_told => k_is
    case a_call_wrong => k_is
    case l_call_wrong => k_is
    case c_call_wrong => k_is
    case k_call_wrong => k_is
    case a_call_worst => k_is
    case l_call_worst => k_is
    case c_call_worst => k_is
    case k_call_worst => k_is
    case a_call_apart => k_is
    case l_call_apart => k_is
    case c_call_apart => k_is
    case k_call_apart => k_is
    case a_call_least => k_is
    case l_call_least => k_is
    case c_call_least => k_is
    case k_call_least => k_is
    case a_call_up => k_is
    case l_call_up => k_is
    case c_call_up => k_is
    case k_call_up => k_is
    case a_call_down => k_is
    case l_call_down => k_is
    case c_call_down => k_is
    case k_call_down => k_is
    case a_call_grade => k_is
    case l_call_grade => k_is
    case c_call_grade => k_is
    case k_call_grade => k_is
    case a_call_state => k_is
    case l_call_state => k_is
    case c_call_state => k_is
    case k_call_state => k_is
    case a_answer_call => k_is
    case l_answer_call => k_is
    case c_answer_call => k_is
    case k_answer_call => k_is
    case a_numbers_start => k_is
    case l_numbers_start => k_is
    case c_numbers_start => k_is
    case k_numbers_start => k_is
    case a_numbers_count => k_is
    case l_numbers_count => k_is
    case c_numbers_count => k_is
    case k_numbers_count => k_is
    case a_answers => k_is
    case l_answers => k_is
    case c_answers => k_is
    case k_answers => k_is
    case g_NOT_BEGUN => k_is
    case g_NOT_AS_TOLD => k_is
    case g_NO_SUCH_ANSWER => k_is
    case g_NOTHING_TO_SHOW => k_is
    case g_MOST_INPUTS => k_is
    case g_MOST_ANSWERS => k_is
    case g_BEGIN => k_is
    case g_PLAIN_NUMBERS => k_is
    case u_PLAIN_NUMBERS => k_is
    case v_PLAIN_NUMBERS => repeat (first | exact PySem.Paired.nil | refine PySem.Paired.cons ⟨_, rfl⟩ ?_)
    case g_ROW_CALLS => k_is
    case u_ROW_CALLS => k_is
    case v_ROW_CALLS => repeat (first | exact PySem.Paired.nil | refine PySem.Paired.cons ⟨_, rfl⟩ ?_)
    case g_ACTIONS => k_is
    case u_ACTIONS => k_is
    case v_ACTIONS => repeat (first | exact PySem.Paired.nil | refine PySem.Paired.cons rfl ?_)
    case z_range => k_is
    case z_len => k_is
    case z_all => k_is
    case z_list => k_is
    case pg => k_is
    case hd => k_is
    case po => k_is
    case sa => k_is
    case mk => k_is
    case kc => k_is
    case w_given => k_is
    case w_answer_count => k_is
  case S =>
    intro K H xs a hO hwi hask hx
    cases hx with
    | cons h1 h2 =>
      cases h2
      cases h1 with
      | lst hs ha =>
        have e := L2.ints_dw a.1 _ ha
        subst e
        have q : ((Codec.inLen 0 1200 a.1 && a.1.all (Codec.inInt 0 2147483647)) && true) = true := hwi
        rw [Bool.and_eq_true, Bool.and_eq_true] at q
        have hz : ∀ z, z ∈ a.1 → 0 ≤ z := fun z hz => (Codec.inInt_iff.mp (List.all_eq_true.mp q.1.2 z hz)).1
        obtain ⟨cs, el, ea, hc, hm⟩ := Ga.asked_is (l := a.1) hask hz
        refine ⟨_, cs, rfl, ?_, fun c hc' => ⟨(hc c hc').1, (hc c hc').2⟩, hm, fun H' p hp => ?_⟩
        · rw [el, Ga.ofs_iv] at hs
          exact hs
        · refine .lst (L2.SqL.of hp) ?_
          show L2.DwAll _ _ _ ((PyKh412.answers a.1).map WData.int)
          rw [ea]
          exact L2.dw_ints _

