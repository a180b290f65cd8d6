import PyProof.Rows.All
import Wide.All
import OpenK.AllK
import Wide.FinOn
import Open.SpecLaws
import KE.OsGo
import HandS.ForSpec
import HandS.TryMany
import HandS.Comp
import HandS.Iter
import HandS.Rev
import HandS.Walk
import HandS.SortInts
import HandS.Wide
import KE.DataMinMax
import HandS.SortKw
import PySem.Challenge.RW_liftedroots_s01_answers
set_option Elab.async false
set_option linter.unusedVariables false
namespace LR
open Na03

/-! ### value -/
theorem value_nil (x : Int) : value [] x = 0 := rfl
theorem value_cons (c : Int) (f : List Int) (x : Int) : value (c :: f) x = c + x * value f x := rfl
def horner (f : List Int) (x : Int) : Int := f.reverse.foldl (fun t c => t * x + c) 0
theorem horner_eq (f : List Int) (x : Int) : horner f x = value f x := by
  unfold horner value
  rw [List.foldl_reverse]
  induction f with
  | nil => rfl
  | cons c f ih =>
    simp only [List.foldr_cons, ih]
    rw [Int.mul_comm, Int.add_comm]
theorem value_shift : ∀ (f : List Int) (x m t : Int), ∃ q, value f (x + m * t) = value f x + m * q
  | [], _, _, _ => ⟨0, by simp [value_nil]⟩
  | c :: f, x, m, t => by
    obtain ⟨q, h⟩ := value_shift f x m t
    refine ⟨x * q + t * (value f x + m * q), ?_⟩
    rw [value_cons, value_cons, h]
    grind
theorem value_shift_mod (f : List Int) (x m t : Int) : value f (x + m * t) % m = value f x % m := by
  obtain ⟨q, h⟩ := value_shift f x m t
  rw [h, Int.add_mul_emod_self_left]
theorem value_mod (f : List Int) (x m : Int) : value f (x % m) % m = value f x % m := by
  have h := value_shift_mod f (x % m) m (x / m)
  rw [Int.emod_add_mul_ediv] at h
  exact h.symm

/-! ### roots -/
theorem mem_roots {f : List Int} {m y : Nat} : y ∈ roots f m ↔ y < m ∧ value f (y : Int) % (m : Int) = 0 := by
  unfold roots
  rw [List.mem_filter, List.mem_range, beq_iff_eq]
theorem mem_next {f : List Int} {p m x y : Nat} : y ∈ next f p m x ↔ (∃ d, d < p ∧ y = x + d * m) ∧ value f (y : Int) % ((m * p : Nat) : Int) = 0 := by
  unfold next
  rw [List.mem_filter, List.mem_map, beq_iff_eq]
  constructor
  · rintro ⟨⟨d, hd, rfl⟩, h⟩
    exact ⟨⟨d, List.mem_range.mp hd, rfl⟩, h⟩
  · rintro ⟨⟨d, hd, rfl⟩, h⟩
    exact ⟨⟨d, List.mem_range.mpr hd, rfl⟩, h⟩
theorem next_down {f : List Int} {p m x y : Nat} (h : y ∈ next f p m x) : value f (x : Int) % (m : Int) = 0 := by
  obtain ⟨⟨d, _, rfl⟩, e⟩ := mem_next.mp h
  have h1 : value f ((x + d * m : Nat) : Int) % (m : Int) = 0 := by
    rw [← Int.emod_emod_of_dvd (value f ((x + d * m : Nat) : Int)) (show (m : Int) ∣ ((m * p : Nat) : Int) from ⟨(p : Int), by simp⟩), e]
    simp
  have h2 := value_shift_mod f (x : Int) (m : Int) (d : Int)
  rw [← h2, ← h1]
  congr 2
  push_cast
  rw [Int.mul_comm]
theorem next_nodup {f : List Int} {p m x : Nat} (hm : 0 < m) : (next f p m x).Nodup := by
  unfold next
  refine List.Pairwise.filter _ ?_
  rw [List.pairwise_map]
  refine (List.nodup_range (n := p)).imp ?_
  intro a b hab h
  apply hab
  have : a * m = b * m := by omega
  exact Nat.eq_of_mul_eq_mul_right hm this
theorem next_sorted {f : List Int} {p m x : Nat} : (next f p m x).Pairwise (fun a b => a ≤ b) := by
  unfold next
  refine List.Pairwise.filter _ ?_
  rw [List.pairwise_map]
  refine (List.pairwise_lt_range (n := p)).imp ?_
  intro a b hab
  have := Nat.mul_le_mul_right m (Nat.le_of_lt hab)
  omega
theorem roots_nodup {f : List Int} {m : Nat} : (roots f m).Nodup := List.Pairwise.filter _ List.nodup_range
theorem roots_sorted {f : List Int} {m : Nat} : (roots f m).Pairwise (fun a b => a ≤ b) :=
  (List.Pairwise.filter _ List.pairwise_lt_range).imp fun h => Nat.le_of_lt h
theorem found_mem {f : List Int} {p m y : Nat} (hm : 0 < m) : y ∈ (roots f m).flatMap (next f p m) ↔ y ∈ roots f (m * p) := by
  rw [List.mem_flatMap, mem_roots]
  constructor
  · rintro ⟨x, hx, hy⟩
    obtain ⟨⟨d, hd, rfl⟩, e⟩ := mem_next.mp hy
    refine ⟨?_, e⟩
    have h1 := (mem_roots.mp hx).1
    have h2 : (d + 1) * m ≤ p * m := Nat.mul_le_mul_right m hd
    rw [Nat.mul_comm m p]
    have h3 : (d + 1) * m = d * m + m := by rw [Nat.add_mul, Nat.one_mul]
    omega
  · rintro ⟨h1, h2⟩
    have hy : y ∈ next f p m (y % m) := by
      refine mem_next.mpr ⟨⟨y / m, ?_, ?_⟩, h2⟩
      · exact Nat.div_lt_of_lt_mul h1
      · have := Nat.mod_add_div y m
        rw [Nat.mul_comm] at this
        exact this.symm
    exact ⟨y % m, mem_roots.mpr ⟨Nat.mod_lt _ hm, next_down hy⟩, hy⟩
theorem found_nodup {f : List Int} {p m : Nat} (hm : 0 < m) : ((roots f m).flatMap (next f p m)).Nodup := by
  unfold List.Nodup
  rw [List.pairwise_flatMap]
  refine ⟨fun x _ => next_nodup hm, ?_⟩
  refine (roots_nodup (f := f) (m := m)).imp_of_mem ?_
  intro x x' hx hx' hne y hy z hz e
  subst e
  obtain ⟨⟨d, _, e1⟩, _⟩ := mem_next.mp hy
  obtain ⟨⟨d', _, e2⟩, _⟩ := mem_next.mp hz
  apply hne
  have l1 := (mem_roots.mp hx).1
  have l2 := (mem_roots.mp hx').1
  have q1 : y % m = x := by rw [e1, Nat.add_mul_mod_self_right, Nat.mod_eq_of_lt l1]
  have q2 : y % m = x' := by rw [e2, Nat.add_mul_mod_self_right, Nat.mod_eq_of_lt l2]
  rw [← q1, ← q2]
theorem roots_step {f : List Int} {p m : Nat} (hm : 0 < m) : ((roots f m).flatMap (next f p m)).Perm (roots f (m * p)) :=
  (List.perm_ext_iff_of_nodup (found_nodup hm) roots_nodup).mpr fun _ => found_mem hm
/-- what a sort of the found roots gives -/
theorem sorted_found {f : List Int} {p m : Nat} (hm : 0 < m) {l : List Int} (h1 : l.Perm (((roots f m).flatMap (next f p m)).map fun (n : Nat) => (n : Int))) (h2 : l.Pairwise (fun a b => a ≤ b)) :
    l = Na03.ints (roots f (m * p)) := by
  have h3 : l.Perm (Na03.ints (roots f (m * p))) := h1.trans ((roots_step hm).map _)
  refine List.Perm.eq_of_pairwise (le := fun a b => a ≤ b) (fun a b _ _ h h' => Int.le_antisymm h h') h2 ?_ h3
  unfold Na03.ints
  rw [List.pairwise_map]
  exact roots_sorted.imp fun h => Int.ofNat_le.mpr h
theorem roots_one (f : List Int) : roots f 1 = [0] := by
  unfold roots
  simp [List.range_succ, Int.emod_one]

/-! ### trim -/
theorem trim_snoc (l : List Int) : trim (l ++ [0]) = trim l := by
  unfold trim
  simp
theorem trim_end {l : List Int} {c : Int} (h : c ≠ 0) : trim (l ++ [c]) = l ++ [c] := by
  unfold trim
  simp [h]
theorem trim_nil : trim [] = [] := rfl
/-- no 0 at the end -/
def Tight (l : List Int) : Prop := trim l = l
theorem trim_tight : ∀ (l : List Int), Tight (trim l) := by
  intro l
  unfold Tight trim
  rw [List.reverse_reverse]
  congr 1
  generalize l.reverse = r
  induction r with
  | nil => rfl
  | cons a r ih =>
    by_cases h : a = 0
    · subst h
      simpa using ih
    · simp [h]
theorem tight_last {l : List Int} {c : Int} (h : Tight (l ++ [c])) : c ≠ 0 := by
  intro e
  subst e
  unfold Tight at h
  rw [trim_snoc] at h
  have h2 : (trim l).length ≤ l.length := by
    unfold trim
    rw [List.length_reverse]
    calc _ ≤ l.reverse.length := (List.dropWhile_sublist _).length_le
      _ = l.length := List.length_reverse
  have h3 := congrArg List.length h
  rw [List.length_append] at h3
  simp only [List.length_cons, List.length_nil] at h3
  omega

/-! ### how often a prime divides -/
theorem val_stop {p n : Nat} {z : Int} (h : z % (p : Int) ≠ 0) : val p n z = 0 := by
  cases n with
  | zero => rfl
  | succ n => exact if_neg h
theorem val_go {p n : Nat} {z : Int} (h : z % (p : Int) = 0) : val p (n + 1) z = 1 + val p n (z / (p : Int)) := if_pos h

/-! ### numbers handed over -/
def fromHanded (z : Int) : Int := if z % 2 = 0 then z / 2 else -((z + 1) / 2)
theorem whole_eq (z : Nat) : whole z = fromHanded (z : Int) := by
  unfold whole fromHanded
  split <;> split <;> omega
end LR
namespace LR
open Na03

/-! ### sums -/
def Sum (n : Nat) (h : Nat → Int) : Int := ((List.range n).map h).foldr (fun a b => a + b) 0
theorem foldr_add (l : List Int) (x : Int) : l.foldr (fun a b => a + b) x = l.foldr (fun a b => a + b) 0 + x := by
  induction l with
  | nil => simp
  | cons a l ih => simp only [List.foldr_cons, ih]; omega
theorem Sum_zero (h : Nat → Int) : Sum 0 h = 0 := rfl
theorem Sum_succ (n : Nat) (h : Nat → Int) : Sum (n + 1) h = Sum n h + h n := by
  unfold Sum
  rw [List.range_succ, List.map_append, List.foldr_append, foldr_add]
  simp
theorem Sum_cons (n : Nat) (h : Nat → Int) : Sum (n + 1) h = h 0 + Sum n (fun i => h (i + 1)) := by
  induction n with
  | zero => rw [Sum_succ, Sum_zero, Sum_zero]; omega
  | succ n ih => rw [Sum_succ, ih, Sum_succ (h := fun i => h (i + 1))]; omega
theorem Sum_congr {n : Nat} {g h : Nat → Int} (e : ∀ i, i < n → g i = h i) : Sum n g = Sum n h := by
  induction n with
  | zero => rfl
  | succ n ih => rw [Sum_succ, Sum_succ, ih fun i hi => e i (by omega), e n (by omega)]
theorem Sum_all0 {n : Nat} {h : Nat → Int} (e : ∀ i, i < n → h i = 0) : Sum n h = 0 := by
  induction n with
  | zero => rfl
  | succ n ih => rw [Sum_succ, ih fun i hi => e i (by omega), e n (by omega)]; rfl
theorem Sum_one {n j : Nat} {h : Nat → Int} (hj : j < n) (e : ∀ i, i < n → i ≠ j → h i = 0) : Sum n h = h j := by
  induction n with
  | zero => omega
  | succ n ih =>
    rw [Sum_succ]
    by_cases c : j = n
    · subst c
      rw [Sum_all0 fun i hi => e i (by omega) (by omega)]
      omega
    · rw [ih (by omega) fun i hi hne => e i (by omega) hne, e n (by omega) (by omega)]
      omega
theorem Sum_add (n : Nat) (g h : Nat → Int) : Sum n (fun i => g i + h i) = Sum n g + Sum n h := by
  induction n with
  | zero => rfl
  | succ n ih => rw [Sum_succ, Sum_succ, Sum_succ, ih]; omega
theorem Sum_mul (n : Nat) (c : Int) (g : Nat → Int) : Sum n (fun i => c * g i) = c * Sum n g := by
  induction n with
  | zero => rw [Sum_zero, Sum_zero, Int.mul_zero]
  | succ n ih => rw [Sum_succ, Sum_succ, ih, Int.mul_add]

/-! ### coefficients -/
abbrev co (f : List Int) (n : Nat) : Int := f.getD n 0
theorem co_nil (n : Nat) : co [] n = 0 := rfl
theorem co_zero (a : Int) (f : List Int) : co (a :: f) 0 = a := rfl
theorem co_succ (a : Int) (f : List Int) (n : Nat) : co (a :: f) (n + 1) = co f n := rfl
theorem co_out {f : List Int} {n : Nat} (h : f.length ≤ n) : co f n = 0 := by
  unfold co
  rw [List.getD_eq_getElem?_getD, List.getElem?_eq_none h]
  rfl
theorem co_in {f : List Int} {n : Nat} (h : n < f.length) : co f n = f[n] := by
  unfold co
  rw [List.getD_eq_getElem?_getD, List.getElem?_eq_getElem h]
  rfl
theorem co_snoc0 (f : List Int) (n : Nat) : co (f ++ [0]) n = co f n := by
  by_cases h : n < f.length
  · rw [co_in (by rw [List.length_append]; omega), co_in h, List.getElem_append_left h]
  · rw [co_out (f := f) (by omega)]
    by_cases h2 : n < (f ++ [0]).length
    · rw [co_in h2, List.getElem_append_right (by omega)]
      simp
    · exact co_out (by omega)
/-- from the end -/
theorem snoc_ind {P : List Int → Prop} (h0 : P []) (h1 : ∀ l a, P l → P (l ++ [a])) (l : List Int) : P l := by
  have : ∀ r : List Int, P r.reverse := by
    intro r
    induction r with
    | nil => exact h0
    | cons a r ih => rw [List.reverse_cons]; exact h1 _ a ih
  have := this l.reverse
  rwa [List.reverse_reverse] at this
theorem co_trim (f : List Int) (n : Nat) : co (trim f) n = co f n := by
  induction f using snoc_ind with
  | h0 => rfl
  | h1 l a ih =>
    by_cases h : a = 0
    · subst h
      rw [trim_snoc, co_snoc0, ih]
    · rw [trim_end h]
theorem trim_length_le (f : List Int) : (trim f).length ≤ f.length := by
  induction f using snoc_ind with
  | h0 => exact Nat.le_refl _
  | h1 l a ih =>
    by_cases h : a = 0
    · subst h
      rw [trim_snoc, List.length_append]
      omega
    · rw [trim_end h]
      exact Nat.le_refl _
theorem tight_nil : Tight [] := rfl
theorem tight_or (f : List Int) (h : Tight f) : f = [] ∨ ∃ l c, f = l ++ [c] ∧ c ≠ 0 := by
  induction f using snoc_ind with
  | h0 => exact .inl rfl
  | h1 l a _ => exact .inr ⟨l, a, rfl, tight_last h⟩
theorem tight_top {f : List Int} (h : Tight f) (hf : f ≠ []) : co f (f.length - 1) ≠ 0 := by
  rcases tight_or f h with rfl | ⟨l, c, rfl, hc⟩
  · exact absurd rfl hf
  · rw [List.length_append]
    show co _ (l.length + 1 - 1) ≠ 0
    rw [co_in (by rw [List.length_append]; show _ < _ + 1; omega), List.getElem_append_right (by omega)]
    simpa using hc
theorem tight_ext {f g : List Int} (hf : Tight f) (hg : Tight g) (e : ∀ n, co f n = co g n) : f = g := by
  have hl : f.length = g.length := by
    rcases Nat.lt_trichotomy f.length g.length with h | h | h
    · have := tight_top hg (by intro z; subst z; simp at h)
      rw [← e, co_out (by omega)] at this
      exact absurd rfl this
    · exact h
    · have := tight_top hf (by intro z; subst z; simp at h)
      rw [e, co_out (by omega)] at this
      exact absurd rfl this
  refine List.ext_getElem hl fun n h1 h2 => ?_
  have := e n
  rwa [co_in h1, co_in h2] at this
theorem trim_ext {f g : List Int} (e : ∀ n, co f n = co g n) : trim f = trim g :=
  tight_ext (trim_tight f) (trim_tight g) fun n => by rw [co_trim, co_trim, e]
theorem tight_of_top {f : List Int} (h : f = [] ∨ co f (f.length - 1) ≠ 0) : Tight f := by
  induction f using snoc_ind with
  | h0 => rfl
  | h1 l a _ =>
    rcases h with h | h
    · simp at h
    · refine trim_end ?_
      rw [List.length_append, co_in (by rw [List.length_append]; simp)] at h
      simpa using h
/-- trimmed, what is given by coefficients up to n -/
theorem co_range_map (n : Nat) (h : Nat → Int) (i : Nat) : co ((List.range n).map h) i = if i < n then h i else 0 := by
  by_cases c : i < n
  · rw [if_pos c, co_in (by rw [List.length_map, List.length_range]; exact c), List.getElem_map, List.getElem_range]
  · rw [if_neg c, co_out (by rw [List.length_map, List.length_range]; omega)]

/-! ### product, sum, slope, move -/
/-- the n-th number of a product -/
def conv (f g : List Int) (n : Nat) : Int := Sum (n + 1) fun i => co f i * co g (n - i)
theorem times_def (f g : List Int) : times f g = trim ((List.range (f.length + g.length - 1)).map (conv f g)) := rfl
theorem conv_out {f g : List Int} {n : Nat} (h : f.length + g.length - 1 ≤ n) : conv f g n = 0 := by
  refine Sum_all0 fun i hi => ?_
  by_cases c : f.length ≤ i
  · rw [co_out c, Int.zero_mul]
  · rw [co_out (f := g) (by omega), Int.mul_zero]
theorem co_times (f g : List Int) (n : Nat) : co (times f g) n = conv f g n := by
  rw [times_def, co_trim, co_range_map]
  split
  · rfl
  · exact (conv_out (by omega)).symm
theorem conv_top {f g : List Int} (hf : f ≠ []) (hg : g ≠ []) : conv f g (f.length + g.length - 1 - 1) = co f (f.length - 1) * co g (g.length - 1) := by
  have l1 : 0 < f.length := List.length_pos_iff.mpr hf
  have l2 : 0 < g.length := List.length_pos_iff.mpr hg
  unfold conv
  rw [Sum_one (j := f.length - 1) (by omega) fun i hi hne => ?_]
  · congr 2
    omega
  · by_cases c : f.length ≤ i
    · rw [co_out c, Int.zero_mul]
    · rw [co_out (f := g) (by omega), Int.mul_zero]
theorem times_full {f g : List Int} (hf : Tight f) (hg : Tight g) (nf : f ≠ []) (ng : g ≠ []) : times f g = (List.range (f.length + g.length - 1)).map (conv f g) := by
  rw [times_def]
  have l1 : 0 < f.length := List.length_pos_iff.mpr nf
  have l2 : 0 < g.length := List.length_pos_iff.mpr ng
  refine tight_of_top (.inr ?_)
  rw [List.length_map, List.length_range, co_range_map, if_pos (by omega), conv_top nf ng]
  exact Int.mul_ne_zero (tight_top hf nf) (tight_top hg ng)
theorem times_len {f g : List Int} (hf : Tight f) (hg : Tight g) (nf : f ≠ []) (ng : g ≠ []) : (times f g).length = f.length + g.length - 1 := by
  rw [times_full hf hg nf ng, List.length_map, List.length_range]
theorem times_len_le (f g : List Int) : (times f g).length ≤ f.length + g.length - 1 := by
  rw [times_def]
  refine Nat.le_trans (trim_length_le _) ?_
  rw [List.length_map, List.length_range]
  exact Nat.le_refl _
theorem conv_nil_left (g : List Int) (n : Nat) : conv [] g n = 0 := Sum_all0 fun i _ => by rw [co_nil, Int.zero_mul]
theorem conv_nil_right (f : List Int) (n : Nat) : conv f [] n = 0 := Sum_all0 fun i _ => by rw [co_nil, Int.mul_zero]
theorem eq_nil_of_co {f : List Int} (hf : Tight f) (h : ∀ n, co f n = 0) : f = [] := tight_ext hf tight_nil fun n => by rw [h, co_nil]
theorem times_tight (f g : List Int) : Tight (times f g) := trim_tight _
theorem plus_tight (f g : List Int) : Tight (plus f g) := trim_tight _
theorem slope_tight (f : List Int) : Tight (slope f) := trim_tight _
theorem times_nil_left (g : List Int) : times [] g = [] := eq_nil_of_co (times_tight _ _) fun n => by rw [co_times, conv_nil_left]
theorem times_nil_right (f : List Int) : times f [] = [] := eq_nil_of_co (times_tight _ _) fun n => by rw [co_times, conv_nil_right]
theorem co_plus (f g : List Int) (n : Nat) : co (plus f g) n = co f n + co g n := by
  unfold plus
  rw [co_trim, co_range_map]
  split
  · rfl
  · rw [co_out (f := f) (by omega), co_out (f := g) (by omega)]
    rfl
theorem conv_zero (f g : List Int) : conv f g 0 = co f 0 * co g 0 := by
  unfold conv
  rw [Sum_succ, Sum_zero]
  simp
theorem conv_cons_zero (a : Int) (f g : List Int) : conv (a :: f) g 0 = a * co g 0 := by
  rw [conv_zero, co_zero]
theorem conv_cons (a : Int) (f g : List Int) (n : Nat) : conv (a :: f) g (n + 1) = a * co g (n + 1) + conv f g n := by
  unfold conv
  rw [Sum_cons]
  simp only [co_zero, Nat.sub_zero, co_succ]
  congr 1
  refine Sum_congr fun i hi => ?_
  congr 2
  omega
/-- by c and x: a step of a move -/
theorem co_step0 (a c : Int) (g : List Int) : co (plus [a] (times [c, 1] g)) 0 = a + c * co g 0 := by
  rw [co_plus, co_times, conv_cons_zero, co_zero]
theorem co_stepS (a c : Int) (g : List Int) (n : Nat) : co (plus [a] (times [c, 1] g)) (n + 1) = c * co g (n + 1) + co g n := by
  rw [co_plus, co_times, conv_cons, co_succ, co_nil, Int.zero_add]
  congr 1
  cases n with
  | zero => rw [conv_cons_zero, Int.one_mul]
  | succ n => rw [conv_cons, conv_nil_left, Int.one_mul, Int.add_zero]
theorem moved_nil (c : Int) : moved [] c = [] := rfl
theorem moved_cons (a : Int) (f : List Int) (c : Int) : moved (a :: f) c = plus [a] (times [c, 1] (moved f c)) := rfl
theorem moved_tight (f : List Int) (c : Int) : Tight (moved f c) := by
  cases f with
  | nil => rfl
  | cons a f => exact plus_tight _ _
theorem co_moved0 (a : Int) (f : List Int) (c : Int) : co (moved (a :: f) c) 0 = a + c * co (moved f c) 0 := co_step0 a c _
theorem co_movedS (a : Int) (f : List Int) (c : Int) (n : Nat) : co (moved (a :: f) c) (n + 1) = c * co (moved f c) (n + 1) + co (moved f c) n := co_stepS a c _ n
theorem co_moved_out : ∀ (f : List Int) (c : Int) (n : Nat), f.length ≤ n → co (moved f c) n = 0
  | [], _, _, _ => rfl
  | a :: f, c, 0, h => by simp at h
  | a :: f, c, n + 1, h => by
    have h' : f.length ≤ n := by simp at h; exact h
    rw [co_movedS, co_moved_out f c (n + 1) (by omega), co_moved_out f c n h']
    omega
theorem co_moved_top : ∀ (f : List Int) (c : Int), f ≠ [] → co (moved f c) (f.length - 1) = co f (f.length - 1)
  | [], _, h => absurd rfl h
  | [a], c, _ => by
    show co (moved [a] c) 0 = a
    rw [co_moved0, moved_nil, co_nil]
    omega
  | a :: b :: f, c, _ => by
    have ih := co_moved_top (b :: f) c (by simp)
    show co (moved (a :: b :: f) c) (f.length + 1) = co (a :: b :: f) (f.length + 1)
    rw [co_movedS, co_moved_out (b :: f) c (f.length + 1) (by simp), co_succ]
    have ih' : co (moved (b :: f) c) f.length = co (b :: f) f.length := ih
    rw [ih']
    omega
theorem tight_length_le {f : List Int} {n : Nat} (hf : Tight f) (h : ∀ i, n ≤ i → co f i = 0) : f.length ≤ n := by
  rcases Nat.lt_or_ge n f.length with c | c
  · have nf : f ≠ [] := by intro z; subst z; simp at c
    exact absurd (h (f.length - 1) (by omega)) (tight_top hf nf)
  · exact c
theorem moved_len {f : List Int} (hf : Tight f) (c : Int) : (moved f c).length = f.length := by
  by_cases nf : f = []
  · subst nf; rfl
  refine Nat.le_antisymm (tight_length_le (moved_tight f c) fun i hi => co_moved_out f c i hi) ?_
  rcases Nat.lt_or_ge (moved f c).length f.length with h | h
  · have := co_moved_top f c nf
    rw [co_out (by omega)] at this
    exact absurd this.symm (tight_top hf nf)
  · exact h

theorem slope_list (f : List Int) : ((f.zipIdx.drop 1).map fun x => x.1 * (x.2 : Int)) = (List.range (f.length - 1)).map fun n => co f (n + 1) * ((n + 1 : Nat) : Int) := by
  refine List.ext_getElem (by simp) fun n h1 h2 => ?_
  have hn : n < f.length - 1 := by simpa using h2
  simp only [List.getElem_map, List.getElem_drop, List.getElem_zipIdx, List.getElem_range]
  rw [co_in (by omega)]
  have e1 : (0 + (1 + n) : Nat) = n + 1 := by omega
  rw [e1]
  congr 2
  omega
theorem co_slope (f : List Int) (n : Nat) : co (slope f) n = co f (n + 1) * ((n + 1 : Nat) : Int) := by
  unfold slope
  rw [co_trim, slope_list, co_range_map]
  split
  · rfl
  · rw [co_out (by omega), Int.zero_mul]
/-- the value by its coefficients only -/
theorem value_trim (f : List Int) (x : Int) : value (trim f) x = value f x := by
  induction f using snoc_ind with
  | h0 => rfl
  | h1 l a ih =>
    by_cases h : a = 0
    · subst h
      rw [trim_snoc, ih]
      unfold value
      rw [List.foldr_append]
      simp
    · rw [trim_end h]
end LR
namespace LR
open Na03

/-! ### how large a polynomial's numbers are: the sum of |c_i| * R ^ i -/
def norm (f : List Int) (R : Nat) : Nat := f.foldr (fun c n => c.natAbs + R * n) 0
theorem norm_nil (R : Nat) : norm [] R = 0 := rfl
theorem norm_cons (a : Int) (f : List Int) (R : Nat) : norm (a :: f) R = a.natAbs + R * norm f R := rfl
/-- by coefficients -/
def normN (h : Nat → Int) (R : Nat) : Nat → Nat
  | 0 => 0
  | n + 1 => (h 0).natAbs + R * normN (fun i => h (i + 1)) R n
theorem norm_eq : ∀ (f : List Int) (R n : Nat), f.length ≤ n → norm f R = normN (co f) R n
  | [], R, 0, _ => rfl
  | [], R, n + 1, _ => by
    have h := norm_eq [] R n (by simp)
    rw [norm_nil] at h ⊢
    show 0 = (0 : Int).natAbs + R * normN (co []) R n
    rw [← h]
    simp
  | a :: f, R, 0, h => by simp at h
  | a :: f, R, n + 1, h => by
    show a.natAbs + R * norm f R = a.natAbs + R * normN (co f) R n
    rw [norm_eq f R n (by simpa using h)]
theorem norm_ext {f g : List Int} (R : Nat) (e : ∀ n, co f n = co g n) : norm f R = norm g R := by
  rw [norm_eq f R (max f.length g.length) (by omega), norm_eq g R (max f.length g.length) (by omega)]
  congr 1
  funext n
  exact e n
theorem norm_mono : ∀ (f : List Int) {R S : Nat}, R ≤ S → norm f R ≤ norm f S
  | [], _, _, _ => Nat.le_refl _
  | a :: f, R, S, h => by
    rw [norm_cons, norm_cons]
    have := Nat.mul_le_mul h (norm_mono f h)
    omega
theorem co_le_norm : ∀ (f : List Int) (n : Nat) {R : Nat}, 1 ≤ R → (co f n).natAbs ≤ norm f R
  | [], n, _, _ => by rw [co_nil]; simp
  | a :: f, 0, R, _ => by rw [co_zero, norm_cons]; omega
  | a :: f, n + 1, R, h => by
    rw [co_succ, norm_cons]
    have h1 := co_le_norm f n h
    have h2 : 1 * norm f R ≤ R * norm f R := Nat.mul_le_mul_right _ h
    omega
/-- a product, number by number of the first -/
def addL : List Int → List Int → List Int
  | [], g => g
  | f, [] => f
  | a :: f, b :: g => (a + b) :: addL f g
theorem co_addL : ∀ (f g : List Int) (n : Nat), co (addL f g) n = co f n + co g n
  | [], g, n => by
    rw [co_nil]
    show co g n = _
    omega
  | a :: f, [], n => by
    rw [co_nil]
    show co (a :: f) n = _
    omega
  | a :: f, b :: g, 0 => rfl
  | a :: f, b :: g, n + 1 => co_addL f g n
theorem norm_addL : ∀ (f g : List Int) (R : Nat), norm (addL f g) R ≤ norm f R + norm g R
  | [], g, R => by
    show norm g R ≤ _
    omega
  | a :: f, [], R => by
    show norm (a :: f) R ≤ _
    omega
  | a :: f, b :: g, R => by
    show (a + b).natAbs + R * norm (addL f g) R ≤ (a.natAbs + R * norm f R) + (b.natAbs + R * norm g R)
    have h1 := Nat.mul_le_mul_left R (norm_addL f g R)
    rw [Nat.mul_add] at h1
    omega
theorem norm_scale (a : Int) : ∀ (g : List Int) (R : Nat), norm (g.map (a * ·)) R = a.natAbs * norm g R
  | [], R => by rw [List.map_nil, norm_nil, Nat.mul_zero]
  | b :: g, R => by
    rw [List.map_cons, norm_cons, norm_scale a g R, norm_cons, Int.natAbs_mul, Nat.mul_add]
    congr 1
    exact Nat.mul_left_comm _ _ _
def mulR : List Int → List Int → List Int
  | [], _ => []
  | a :: f, g => addL (g.map (a * ·)) (0 :: mulR f g)
theorem co_scale (a : Int) (g : List Int) (n : Nat) : co (g.map (a * ·)) n = a * co g n := by
  by_cases h : n < g.length
  · rw [co_in (by rw [List.length_map]; exact h), co_in h, List.getElem_map]
  · rw [co_out (by rw [List.length_map]; omega), co_out (f := g) (by omega), Int.mul_zero]
theorem co_mulR : ∀ (f g : List Int) (n : Nat), co (mulR f g) n = conv f g n
  | [], g, n => by rw [conv_nil_left]; rfl
  | a :: f, g, 0 => by
    rw [conv_cons_zero]
    show co (addL _ _) 0 = _
    rw [co_addL, co_scale, co_zero]
    omega
  | a :: f, g, n + 1 => by
    rw [conv_cons, ← co_mulR f g n]
    show co (addL _ _) (n + 1) = _
    rw [co_addL, co_scale, co_succ]
theorem norm_mulR : ∀ (f g : List Int) (R : Nat), norm (mulR f g) R ≤ norm f R * norm g R
  | [], g, R => by
    show norm [] R ≤ _
    rw [norm_nil]
    omega
  | a :: f, g, R => by
    have h := norm_addL (g.map (a * ·)) (0 :: mulR f g) R
    rw [norm_scale, norm_cons] at h
    have h1 := Nat.mul_le_mul_left R (norm_mulR f g R)
    show norm (addL _ _) R ≤ _
    rw [norm_cons, Nat.add_mul, Nat.mul_assoc]
    simp only [Int.natAbs_zero] at h
    omega
theorem norm_times (f g : List Int) (R : Nat) : norm (times f g) R ≤ norm f R * norm g R := by
  rw [norm_ext R (fun n => (co_times f g n).trans (co_mulR f g n).symm)]
  exact norm_mulR f g R
theorem norm_plus (f g : List Int) (R : Nat) : norm (plus f g) R ≤ norm f R + norm g R := by
  rw [norm_ext (g := addL f g) R (fun n => by rw [co_plus, co_addL])]
  exact norm_addL f g R
theorem norm_moved : ∀ (f : List Int) (c : Int) (R : Nat), norm (moved f c) R ≤ norm f (R + c.natAbs)
  | [], _, _ => Nat.le_refl _
  | a :: f, c, R => by
    rw [moved_cons, norm_cons]
    have h1 := norm_plus [a] (times [c, 1] (moved f c)) R
    have h2 := norm_times [c, 1] (moved f c) R
    have h3 := norm_moved f c R
    have e1 : norm [a] R = a.natAbs := by simp [norm_cons, norm_nil]
    have e2 : norm [c, 1] R = R + c.natAbs := by
      simp [norm_cons, norm_nil]
      omega
    rw [e1] at h1
    rw [e2] at h2
    have h4 := Nat.mul_le_mul_left (R + c.natAbs) h3
    omega
theorem norm_small : ∀ (f : List Int) (B R : Nat), (∀ c ∈ f, c.natAbs ≤ B) → 1 ≤ R → norm f R ≤ f.length * B * R ^ (f.length - 1)
  | [], _, _, _, _ => by simp [norm_nil]
  | [a], B, R, h, _ => by
    have := h a (by simp)
    simp [norm_cons, norm_nil]
    exact this
  | a :: b :: f, B, R, h, hR => by
    have ih := norm_small (b :: f) B R (fun c hc => h c (List.mem_cons_of_mem _ hc)) hR
    have ha := h a (by simp)
    rw [norm_cons]
    have h1 : (a :: b :: f).length = (b :: f).length + 1 := rfl
    have h2 : (b :: f).length = f.length + 1 := rfl
    rw [h1, Nat.add_sub_cancel]
    rw [h2] at ih ⊢
    rw [Nat.add_sub_cancel] at ih
    have h3 := Nat.mul_le_mul_left R ih
    have e : R * ((f.length + 1) * B * R ^ f.length) = (f.length + 1) * B * R ^ (f.length + 1) := by
      rw [Nat.pow_succ]
      rw [Nat.mul_left_comm, Nat.mul_comm R]
    have h4 : B * 1 ≤ B * R ^ (f.length + 1) := Nat.mul_le_mul_left B (Nat.pow_pos (by omega))
    rw [e] at h3
    have e2 : (f.length + 1 + 1) * B * R ^ (f.length + 1) = (f.length + 1) * B * R ^ (f.length + 1) + B * R ^ (f.length + 1) := by
      rw [Nat.add_mul (f.length + 1) 1 B, Nat.one_mul, Nat.add_mul]
    rw [e2]
    omega
/-- what holds of the polynomial behind n calls -/
structure Small (f : List Int) (n : Nat) : Prop where
  tight : Tight f
  len : f.length ≤ 9
  size : ∀ R, 1 ≤ R → norm f R ≤ 5000 ^ n * (R + 100 * n) ^ f.length
theorem Small.later {f : List Int} {n : Nat} (h : Small f n) : Small f (n + 1) := by
  refine ⟨h.tight, h.len, fun R hR => Nat.le_trans (h.size R hR) ?_⟩
  refine Nat.mul_le_mul (Nat.pow_le_pow_right (by omega) (by omega)) (Nat.pow_le_pow_left (by omega) _)
theorem whole_small {z : Nat} (h : z ≤ 2000) : (whole z).natAbs ≤ 1000 := by
  unfold whole
  split <;> omega
theorem polyOf_spec {l : List Nat} {g : Poly} (h : polyOf l = some g) : g = trim (l.map whole) ∧ l.length ≤ 5 ∧ ∀ z ∈ l, z ≤ 2000 := by
  unfold polyOf at h
  split at h
  · cases h
  · rename_i c
    refine ⟨(Option.some.inj h).symm, by omega, ?_⟩
    have c2 : l.all (fun z => decide (z ≤ 2000)) = true := by
      cases e : l.all (fun z => decide (z ≤ 2000)) with
      | true => rfl
      | false => exact absurd (.inr e) c
    intro z hz
    have := List.all_eq_true.mp c2 z hz
    simpa using this
theorem mem_trim {f : List Int} {c : Int} (h : c ∈ trim f) : c ∈ f := by
  unfold trim at h
  rw [List.mem_reverse] at h
  have := (List.dropWhile_sublist (p := fun c : Int => c == 0) (l := f.reverse)).subset h
  exact List.mem_reverse.mp this
/-- a polynomial that is handed in -/
theorem handed_norm {l : List Nat} {g : Poly} (h : polyOf l = some g) {R : Nat} (hR : 1 ≤ R) : norm g R ≤ 5000 * R ^ (g.length - 1) := by
  obtain ⟨rfl, hl, hz⟩ := polyOf_spec h
  have h1 := norm_small (trim (l.map whole)) 1000 R (fun c hc => by
    obtain ⟨z, hz1, rfl⟩ := List.mem_map.mp (mem_trim hc)
    exact whole_small (hz z hz1)) hR
  have h2 := trim_length_le (l.map whole)
  rw [List.length_map] at h2
  refine Nat.le_trans h1 (Nat.mul_le_mul_right _ ?_)
  omega
theorem small_init : Small [0, 1] 0 := by
  refine ⟨rfl, by decide, fun R hR => ?_⟩
  simp [norm_cons, norm_nil]
  rw [Nat.pow_succ, Nat.pow_one]
  exact Nat.le_mul_of_pos_right _ hR
theorem small_poly {l : List Nat} {g : Poly} (h : polyOf l = some g) (n : Nat) : Small g (n + 1) := by
  have hs := polyOf_spec h
  have h2 := trim_length_le (l.map whole)
  rw [List.length_map] at h2
  refine ⟨by rw [hs.1]; exact trim_tight _, by rw [hs.1]; omega, fun R hR => ?_⟩
  refine Nat.le_trans (handed_norm h hR) (Nat.mul_le_mul ?_ ?_)
  · rw [Nat.pow_succ]
    exact Nat.le_mul_of_pos_left _ (Nat.pow_pos (by omega))
  · refine Nat.le_trans (Nat.pow_le_pow_right hR (Nat.sub_le _ 1)) (Nat.pow_le_pow_left (by omega) _)
theorem small_times {f g : Poly} {l : List Nat} {n : Nat} (hf : Small f n) (h : polyOf l = some g) (h9 : f.length + g.length - 1 ≤ 9) : Small (times f g) (n + 1) := by
  have hg : Tight g := (small_poly h 0).tight
  refine ⟨times_tight _ _, Nat.le_trans (times_len_le f g) h9, fun R hR => ?_⟩
  by_cases nf : f = []
  · subst nf
    rw [times_nil_left, norm_nil]
    omega
  by_cases ng : g = []
  · subst ng
    rw [times_nil_right, norm_nil]
    omega
  refine Nat.le_trans (norm_times f g R) ?_
  rw [times_len hf.tight hg nf ng]
  have l2 : 0 < g.length := List.length_pos_iff.mpr ng
  have e : f.length + g.length - 1 = f.length + (g.length - 1) := by omega
  rw [e, Nat.pow_add (R + 100 * (n + 1)), show 5000 ^ (n + 1) = 5000 ^ n * 5000 from Nat.pow_succ _ _]
  have h1 := hf.size R hR
  have h2 := handed_norm h hR
  refine Nat.le_trans (Nat.mul_le_mul h1 h2) ?_
  have e2 : 5000 ^ n * (R + 100 * n) ^ f.length * (5000 * R ^ (g.length - 1)) = 5000 ^ n * 5000 * ((R + 100 * n) ^ f.length * R ^ (g.length - 1)) := by
    rw [Nat.mul_assoc, Nat.mul_assoc, Nat.mul_left_comm ((R + 100 * n) ^ f.length)]
  rw [e2]
  refine Nat.mul_le_mul_left _ (Nat.mul_le_mul (Nat.pow_le_pow_left (by omega) _) (Nat.pow_le_pow_left (by omega) _))
theorem small_moved {f : Poly} {n : Nat} {c : Int} (hf : Small f n) (hc : c.natAbs ≤ 100) : Small (moved f c) (n + 1) := by
  refine ⟨moved_tight _ _, by rw [moved_len hf.tight]; exact hf.len, fun R hR => ?_⟩
  rw [moved_len hf.tight]
  refine Nat.le_trans (norm_moved f c R) (Nat.le_trans (hf.size _ (by omega)) ?_)
  refine Nat.mul_le_mul (Nat.pow_le_pow_right (by omega) (by omega)) (Nat.pow_le_pow_left (by omega) _)
theorem Small.num {f : Poly} {n : Nat} (h : Small f n) (hn : n ≤ 30) (i : Nat) : (co f i).natAbs < 2 ^ 500 := by
  have h1 := co_le_norm f i (R := 1) (Nat.le_refl _)
  have h2 := h.size 1 (Nat.le_refl _)
  have h3 : 5000 ^ n * (1 + 100 * n) ^ f.length ≤ 5000 ^ 30 * 3001 ^ 9 := by
    refine Nat.mul_le_mul (Nat.pow_le_pow_right (by omega) hn) ?_
    refine Nat.le_trans (Nat.pow_le_pow_left (show 1 + 100 * n ≤ 3001 by omega) _) (Nat.pow_le_pow_right (by omega) h.len)
  have h4 : 5000 ^ 30 * 3001 ^ 9 ≤ 2 ^ 498 := by
    have a1 : 5000 ^ 30 ≤ (2 ^ 13) ^ 30 := Nat.pow_le_pow_left (by decide) _
    have a2 : 3001 ^ 9 ≤ (2 ^ 12) ^ 9 := Nat.pow_le_pow_left (by decide) _
    have a3 := Nat.mul_le_mul a1 a2
    rw [← Nat.pow_mul, ← Nat.pow_mul, ← Nat.pow_add] at a3
    exact Nat.le_trans a3 (Nat.pow_le_pow_right (by decide) (by decide))
  have h5 : 2 ^ 498 < 2 ^ 500 := Nat.pow_lt_pow_right (by decide) (by decide)
  exact Nat.lt_of_le_of_lt (Nat.le_trans h1 (Nat.le_trans h2 (Nat.le_trans h3 h4))) h5
/-- a state behind n calls -/
structure Good (d : Desk) (n : Nat) : Prop where
  f : Small d.f n
  p : d.p = 2 ∨ d.p = 3 ∨ d.p = 5 ∨ d.p = 7
theorem good_init : Good init 0 := ⟨small_init, .inl rfl⟩
theorem Good.later {d : Desk} {n : Nat} (h : Good d n) : Good d (n + 1) := ⟨h.f.later, h.p⟩
theorem good_step {d : Desk} {n : Nat} (h : Good d n) (c : Call) : Good (step d c).1 (n + 1) := by
  cases c with
  | poly l =>
    show Good (match polyOf l with | none => (d, [-1]) | some f => ({ d with f := f }, shown f)).1 _
    cases e : polyOf l with
    | none => exact h.later
    | some g => exact ⟨small_poly e n, h.p⟩
  | prime p =>
    show Good (if [2, 3, 5, 7].contains p = false then (d, [-1]) else ({ d with p := p }, [0])).1 _
    split
    · exact h.later
    · rename_i c
      refine ⟨h.f.later, ?_⟩
      simp at c
      show p = 2 ∨ p = 3 ∨ p = 5 ∨ p = 7
      omega
  | times l =>
    show Good (match polyOf l with | none => (d, [-1]) | some g => if 9 < d.f.length + g.length - 1 then (d, [-5]) else ({ d with f := Na03.times d.f g }, shown (Na03.times d.f g))).1 _
    cases e : polyOf l with
    | none => exact h.later
    | some g =>
      show Good (if 9 < d.f.length + g.length - 1 then (d, [-5]) else ({ d with f := Na03.times d.f g }, shown (Na03.times d.f g))).1 _
      split
      · exact h.later
      · exact ⟨small_times h.f e (by omega), h.p⟩
  | move z =>
    show Good (if 200 < z then (d, [-1]) else ({ d with f := moved d.f (whole z) }, shown (moved d.f (whole z)))).1 _
    split
    · exact h.later
    · refine ⟨small_moved h.f ?_, h.p⟩
      unfold whole
      split <;> omega
  | _ => exact h.later
end LR
namespace LR
open Na03 (Call)
/-! ### a list of calls, as it is handed in -/
def code : Call → Nat
  | .poly _ => 0 | .prime _ => 1 | .value _ => 2 | .val _ => 3 | .roots _ => 4 | .next _ _ => 5 | .counts _ => 6
  | .lift _ _ => 7 | .slopes => 8 | .times _ => 9 | .move _ => 10 | .shown => 11 | .simple => 12
def args : Call → List Nat
  | .poly l => l.length :: l | .prime p => [p] | .value z => [z] | .val z => [z] | .roots k => [k] | .next k x => [k, x] | .counts k => [k]
  | .lift x n => [x, n] | .slopes => [] | .times l => l.length :: l | .move z => [z] | .shown => [] | .simple => []
/-- without the count of a row -/
def told1 : Call → List Nat
  | .poly l => 0 :: l
  | .times l => 9 :: l
  | c => code c :: args c
def flat1 (c : Call) : List Int := Na03.ints (code c :: args c)
def flat (cs : List Call) : List Int := cs.flatMap flat1
theorem callIn_told1 (c : Call) : Na03Neutral.callIn (told1 c) = some c := by cases c <;> rfl
theorem ints_cons (n : Nat) (l : List Nat) : Na03.ints (n :: l) = (n : Int) :: Na03.ints l := rfl
theorem toNat_ints (l : List Nat) : (Na03.ints l).map Int.toNat = l := by
  unfold Na03.ints
  rw [List.map_map]
  induction l with
  | nil => rfl
  | cons a l ih => rw [List.map_cons, ih]; rfl
def Ranged (l : List Int) : Prop := ∀ z ∈ l, 0 ≤ z ∧ z < 2 ^ 32
theorem ints_toNat {l : List Int} (h : Ranged l) : Na03.ints (l.map Int.toNat) = l := by
  unfold Na03.ints
  rw [List.map_map]
  induction l with
  | nil => rfl
  | cons a l ih =>
    rw [List.map_cons, ih fun z hz => h z (List.mem_cons_of_mem _ hz)]
    have := (h a (List.mem_cons_self)).1
    congr 1
    show ((a.toNat : Nat) : Int) = a
    omega
theorem Ranged.tail {a : Int} {l : List Int} (h : Ranged (a :: l)) : Ranged l := fun z hz => h z (List.mem_cons_of_mem _ hz)
theorem Ranged.left {a b : List Int} (h : Ranged (a ++ b)) : Ranged a := fun z hz => h z (List.mem_append_left _ hz)
theorem Ranged.right {a b : List Int} (h : Ranged (a ++ b)) : Ranged b := fun z hz => h z (List.mem_append_right _ hz)
/-- one call read: what it is -/
def Reads1 (l : List Int) (c : List (List Int)) (t : List Int) : Prop := ∃ x : Call, l = flat1 x ++ t ∧ (PyNa03.whole c).headD [] = Na03.ints (told1 x)
theorem row_inv {l x s : List Int} (h : PyFlat.row l = some (x, s)) : l = ((x.length : Nat) : Int) :: (x ++ s) := by
  cases l with
  | nil => cases h
  | cons n r =>
    have h' : (if 0 ≤ n ∧ n.toNat ≤ r.length then some (r.take n.toNat, r.drop n.toNat) else none) = some (x, s) := h
    by_cases k : 0 ≤ n ∧ n.toNat ≤ r.length
    · rw [if_pos k] at h'
      obtain ⟨e1, e2⟩ := Prod.mk.inj (Option.some.inj h')
      subst e1 e2
      rw [List.take_append_drop, List.length_take]
      congr 1
      omega
    · rw [if_neg k] at h'
      cases h'
theorem rows1_inv {l t : List Int} {xs : List (List Int)} (h : PyFlat.rows 1 l = some (xs, t)) : ∃ x, xs = [x] ∧ l = ((x.length : Nat) : Int) :: (x ++ t) := by
  unfold PyFlat.rows at h
  split at h
  · cases h
  · rename_i x s e
    have h' : some ([x], s) = some (xs, t) := h
    obtain ⟨e1, e2⟩ := Prod.mk.inj (Option.some.inj h')
    subst e1 e2
    exact ⟨x, rfl, row_inv e⟩
theorem rows0_inv {l t : List Int} {xs : List (List Int)} (h : PyFlat.rows 0 l = some (xs, t)) : xs = [] ∧ l = t := by
  have h' : some (([] : List (List Int)), l) = some (xs, t) := h
  obtain ⟨e1, e2⟩ := Prod.mk.inj (Option.some.inj h')
  exact ⟨e1.symm, e2⟩
/-- what a call's read tells, by its shape -/
theorem call_inv {p : Int} {r : List Int} {c : List (List Int)} {t : List Int} (h : PyFlat.call PyNa03.shape (p :: r) = some (c, t)) :
    ∃ n k xs, PyNa03.shape p = some (n, k) ∧ n ≤ r.length ∧ PyFlat.rows k (r.drop n) = some (xs, t) ∧ c = (p :: r.take n) :: xs := by
  have h' : (match PyNa03.shape p with
    | none => none
    | some (n, k) => if r.length < n then none else match PyFlat.rows k (r.drop n) with
      | none => none
      | some (xs, t) => some ((p :: r.take n) :: xs, t)) = some (c, t) := h
  cases e : PyNa03.shape p with
  | none =>
    rw [e] at h'
    cases h'
  | some q =>
    obtain ⟨n, k⟩ := q
    rw [e] at h'
    have h2 : (if r.length < n then none else match PyFlat.rows k (r.drop n) with
      | none => none
      | some (xs, t) => some ((p :: r.take n) :: xs, t)) = some (c, t) := h'
    by_cases hl : r.length < n
    · rw [if_pos hl] at h2
      cases h2
    · rw [if_neg hl] at h2
      cases e2 : PyFlat.rows k (r.drop n) with
      | none =>
        rw [e2] at h2
        cases h2
      | some q2 =>
        obtain ⟨xs, t'⟩ := q2
        rw [e2] at h2
        have h3 : some ((p :: r.take n) :: xs, t') = some (c, t) := h2
        obtain ⟨e3, e4⟩ := Prod.mk.inj (Option.some.inj h3)
        subst e3 e4
        exact ⟨n, k, xs, rfl, by omega, e2, rfl⟩
theorem shape_cases {p : Int} {n k : Nat} (h : PyNa03.shape p = some (n, k)) :
    ((p = 0 ∨ p = 9) ∧ n = 0 ∧ k = 1) ∨ ((p = 1 ∨ p = 2 ∨ p = 3 ∨ p = 4 ∨ p = 6 ∨ p = 10) ∧ n = 1 ∧ k = 0) ∨ ((p = 5 ∨ p = 7) ∧ n = 2 ∧ k = 0) ∨ ((p = 8 ∨ p = 11 ∨ p = 12) ∧ n = 0 ∧ k = 0) := by
  have hp : p = 0 ∨ p = 1 ∨ p = 2 ∨ p = 3 ∨ p = 4 ∨ p = 5 ∨ p = 6 ∨ p = 7 ∨ p = 8 ∨ p = 9 ∨ p = 10 ∨ p = 11 ∨ p = 12 := by
    refine Classical.byContradiction fun z => ?_
    have e : PyNa03.shape p = none := by
      unfold PyNa03.shape
      rw [if_neg (by omega), if_neg (by omega), if_neg (by omega), if_neg (by omega), if_neg (by omega), if_neg (by omega), if_neg (by omega), if_neg (by omega), if_neg (by omega), if_neg (by omega), if_neg (by omega), if_neg (by omega), if_neg (by omega)]
    rw [e] at h
    cases h
  rcases hp with rfl | rfl | rfl | rfl | rfl | rfl | rfl | rfl | rfl | rfl | rfl | rfl | rfl <;>
    (obtain ⟨e1, e2⟩ := Prod.mk.inj (Option.some.inj h); subst e1 e2; omega)
theorem reads1 {p : Int} {r : List Int} {c : List (List Int)} {t : List Int} (hr : Ranged (p :: r)) (h : PyFlat.call PyNa03.shape (p :: r) = some (c, t)) : Reads1 (p :: r) c t := by
  obtain ⟨n, k, xs, hs, hn, hk, rfl⟩ := call_inv h
  have nn : ∀ z ∈ r, ∃ m : Nat, z = (m : Int) := fun z hz => ⟨z.toNat, by have := (hr z (List.mem_cons_of_mem _ hz)).1; omega⟩
  rcases shape_cases hs with ⟨hp, rfl, rfl⟩ | ⟨hp, rfl, rfl⟩ | ⟨hp, rfl, rfl⟩ | ⟨hp, rfl, rfl⟩
  · obtain ⟨x, rfl, e⟩ := rows1_inv hk
    have e' : r = ((x.length : Nat) : Int) :: (x ++ t) := e
    subst e'
    have hx : Ranged x := (hr.tail.tail).left
    have ex := ints_toNat hx
    have el : (x.map Int.toNat).length = x.length := List.length_map _
    rcases hp with rfl | rfl
    · refine ⟨.poly (x.map Int.toNat), ?_, ?_⟩
      · show _ = (0 : Int) :: (((x.map Int.toNat).length : Nat) : Int) :: (Na03.ints (x.map Int.toNat) ++ t)
        rw [ex, el]
      · show (0 : Int) :: x = (0 : Int) :: Na03.ints (x.map Int.toNat)
        rw [ex]
    · refine ⟨.times (x.map Int.toNat), ?_, ?_⟩
      · show _ = (9 : Int) :: (((x.map Int.toNat).length : Nat) : Int) :: (Na03.ints (x.map Int.toNat) ++ t)
        rw [ex, el]
      · show (9 : Int) :: x = (9 : Int) :: Na03.ints (x.map Int.toNat)
        rw [ex]
  · obtain ⟨rfl, e⟩ := rows0_inv hk
    cases r with
    | nil => simp at hn
    | cons z r =>
      have e' : r = t := e
      subst e'
      obtain ⟨m, rfl⟩ := nn z List.mem_cons_self
      rcases hp with rfl | rfl | rfl | rfl | rfl | rfl
      · exact ⟨.prime m, rfl, rfl⟩
      · exact ⟨.value m, rfl, rfl⟩
      · exact ⟨.val m, rfl, rfl⟩
      · exact ⟨.roots m, rfl, rfl⟩
      · exact ⟨.counts m, rfl, rfl⟩
      · exact ⟨.move m, rfl, rfl⟩
  · obtain ⟨rfl, e⟩ := rows0_inv hk
    cases r with
    | nil => simp at hn
    | cons z r =>
      cases r with
      | nil => simp at hn
      | cons y r =>
        have e' : r = t := e
        subst e'
        obtain ⟨m, rfl⟩ := nn z List.mem_cons_self
        obtain ⟨m2, rfl⟩ := nn y (List.mem_cons_of_mem _ List.mem_cons_self)
        rcases hp with rfl | rfl
        · exact ⟨.next m m2, rfl, rfl⟩
        · exact ⟨.lift m m2, rfl, rfl⟩
  · obtain ⟨rfl, e⟩ := rows0_inv hk
    have e' : r = t := e
    subst e'
    rcases hp with rfl | rfl | rfl
    · exact ⟨.slopes, rfl, rfl⟩
    · exact ⟨.shown, rfl, rfl⟩
    · exact ⟨.simple, rfl, rfl⟩
theorem calls_read : ∀ (f : Nat) (l : List Int) (raw : List (List (List Int))), Ranged l → PyFlat.calls PyNa03.shape f l = some raw →
    ∃ cs : List Call, l = flat cs ∧ (raw.map PyNa03.whole).map (fun c => c.headD []) = cs.map fun c => Na03.ints (told1 c)
  | f, [], raw, _, h => by
    have e : raw = [] := by
      cases f <;> exact (Option.some.inj h).symm
    subst e
    exact ⟨[], rfl, rfl⟩
  | 0, p :: r, raw, _, h => by cases h
  | f + 1, p :: r, raw, hr, h => by
    unfold PyFlat.calls at h
    split at h
    · cases h
    · rename_i c t e
      split at h
      · cases h
      · rename_i cs' e2
        obtain rfl := Option.some.inj h
        obtain ⟨x, ex, ew⟩ := reads1 hr e
        rw [ex] at hr
        obtain ⟨cs, e3, e4⟩ := calls_read f t cs' hr.right e2
        refine ⟨x :: cs, ?_, ?_⟩
        · rw [ex, e3]
          rfl
        · rw [List.map_cons, List.map_cons, List.map_cons, e4, ew]
/-- what is answered, call by call -/
def run : Na03.Desk → List Call → List Int
  | _, [] => []
  | d, c :: cs => (((Na03.step d c).2.length : Nat) : Int) :: ((Na03.step d c).2 ++ run (Na03.step d c).1 cs)
theorem step_told1 {c : Call} (h : Ranged (Na03.ints (told1 c))) (d : Na03.Desk) : Na03Neutral.step d (Na03.ints (told1 c)) = Na03.step d c := by
  have e : Na03Neutral.callOf (Na03.ints (told1 c)) = some c := by
    unfold Na03Neutral.callOf
    have ha : (Na03.ints (told1 c)).all Na03Neutral.nat = true := by
      rw [List.all_eq_true]
      intro z hz
      unfold Na03Neutral.nat
      have := h z hz
      rw [decide_eq_true this.1, decide_eq_true this.2]
      rfl
    rw [ha, if_neg (by decide), toNat_ints]
    exact callIn_told1 c
  unfold Na03Neutral.step
  rw [e]
theorem told1_sub (c : Call) : ∀ z ∈ told1 c, z ∈ code c :: args c := by
  cases c with
  | poly l =>
    intro z hz
    rcases List.mem_cons.mp hz with rfl | hz
    · exact List.mem_cons_self
    · exact List.mem_cons_of_mem _ (List.mem_cons_of_mem _ hz)
  | times l =>
    intro z hz
    rcases List.mem_cons.mp hz with rfl | hz
    · exact List.mem_cons_self
    · exact List.mem_cons_of_mem _ (List.mem_cons_of_mem _ hz)
  | _ => exact fun z hz => hz
theorem Ranged.told1 {c : Call} (h : Ranged (flat1 c)) : Ranged (Na03.ints (told1 c)) := by
  intro z hz
  obtain ⟨m, hm, rfl⟩ := List.mem_map.mp hz
  exact h _ (List.mem_map.mpr ⟨m, told1_sub c m hm, rfl⟩)
theorem played_run : ∀ (cs : List Call) (raw : List (List (List Int))) (d : Na03.Desk), Ranged (flat cs) → raw.map (fun c => c.headD []) = cs.map (fun c => Na03.ints (LR.told1 c)) →
    PyFlat.told (PyFlat.played (fun s c => Na03Neutral.step s (c.headD [])) d raw) = run d cs
  | [], raw, d, _, h => by
    cases raw with
    | nil => rfl
    | cons a b => cases h
  | c :: cs, raw, d, hr, h => by
    cases raw with
    | nil => cases h
    | cons a raw =>
      obtain ⟨h1, h2⟩ := List.cons.inj h
      have hr' : Ranged (flat1 c ++ flat cs) := hr
      have e : Na03Neutral.step d (a.headD []) = Na03.step d c := by
        have h1' : a.headD [] = Na03.ints (LR.told1 c) := h1
        rw [h1']
        exact step_told1 hr'.left.told1 d
      show PyFlat.told ((Na03Neutral.step d (a.headD [])).2 :: PyFlat.played _ (Na03Neutral.step d (a.headD [])).1 raw) = _
      rw [e]
      have ih := played_run cs raw (Na03.step d c).1 hr'.right h2
      show ((((Na03.step d c).2.length : Nat) : Int) :: (Na03.step d c).2) ++ PyFlat.told _ = _
      rw [ih]
      rfl
/-- **what is asked, in calls** -/
theorem asked_calls {l : List Int} (hr : Ranged l) (h : PyNa03.answers_asked l = true) : ∃ cs : List Call, l = flat cs ∧ cs.length ≤ 30 ∧ PyNa03.answers l = run Na03.init cs ∧ (PyNa03.answers l).length ≤ 10000000 := by
  unfold PyNa03.answers_asked at h
  split at h
  · cases h
  · rename_i raw e
    obtain ⟨cs, e1, e2⟩ := calls_read _ _ _ hr e
    simp only [Bool.and_eq_true] at h
    obtain ⟨⟨⟨⟨h1, h2⟩, h3⟩, h4⟩, h5⟩ := h
    refine ⟨cs, e1, ?_, ?_, ?_⟩
    · have hl := congrArg List.length e2
      rw [List.length_map, List.length_map, List.length_map] at hl
      unfold PyFlat.atMost at h2
      have := of_decide_eq_true h2
      omega
    · unfold PyNa03.answers PyNa03.calls
      rw [e]
      exact played_run cs _ _ (by rw [← e1]; exact hr) e2
    · unfold PyFlat.short at h5
      exact of_decide_eq_true h5
end LR
namespace LR
open Na03

/-! ### the slope's value -/
def dval : List Int → Int → Int
  | [], _ => 0
  | _ :: f, y => value f y + y * dval f y
theorem value_zipIdx : ∀ (f : List Int) (k : Nat) (y : Int), value ((f.zipIdx k).map fun x => x.1 * (x.2 : Int)) y = (k : Int) * value f y + y * dval f y
  | [], k, y => by simp [value_nil, dval]
  | c :: f, k, y => by
    rw [List.zipIdx_cons, List.map_cons, value_cons, value_zipIdx f (k + 1) y, value_cons]
    show c * (k : Int) + y * (((k + 1 : Nat) : Int) * value f y + y * dval f y) = (k : Int) * (c + y * value f y) + y * (value f y + y * dval f y)
    push_cast
    grind
theorem value_slope (f : List Int) (y : Int) : value (slope f) y = dval f y := by
  unfold slope
  rw [value_trim]
  cases f with
  | nil => rfl
  | cons c f =>
    rw [List.zipIdx_cons, List.drop_succ_cons, List.drop_zero, value_zipIdx f (0 + 1) y]
    show ((0 + 1 : Nat) : Int) * value f y + y * dval f y = value f y + y * dval f y
    simp
/-- to the second order -/
theorem taylor : ∀ (f : List Int) (y h : Int), ∃ q, value f (y + h) = value f y + h * dval f y + h * h * q
  | [], _, _ => ⟨0, by simp [value_nil, dval]⟩
  | c :: f, y, h => by
    obtain ⟨q, e⟩ := taylor f y h
    refine ⟨dval f y + y * q + h * q, ?_⟩
    rw [value_cons, value_cons, e]
    show c + (y + h) * (value f y + h * dval f y + h * h * q) = c + y * value f y + h * (value f y + y * dval f y) + h * h * (dval f y + y * q + h * q)
    grind
theorem dval_shift : ∀ (f : List Int) (x m t : Int), ∃ q, dval f (x + m * t) = dval f x + m * q
  | [], _, _, _ => ⟨0, by simp [dval]⟩
  | c :: f, x, m, t => by
    obtain ⟨q1, e1⟩ := value_shift f x m t
    obtain ⟨q2, e2⟩ := dval_shift f x m t
    refine ⟨q1 + x * q2 + t * (dval f x + m * q2), ?_⟩
    show value f (x + m * t) + (x + m * t) * dval f (x + m * t) = value f x + x * dval f x + _
    rw [e1, e2]
    grind
theorem dval_mod (f : List Int) (x m : Int) : dval f (x % m) % m = dval f x % m := by
  obtain ⟨q, e⟩ := dval_shift f (x % m) m (x / m)
  rw [Int.emod_add_mul_ediv] at e
  rw [e, Int.add_mul_emod_self_left]
/-- one digit, for the four primes -/
theorem digit_nat : ∀ p ∈ [2, 3, 5, 7], ∀ u < p, ∀ c < p, c ≠ 0 → ∃ d < p, (u + d * c) % p = 0 ∧ ∀ e < p, (u + e * c) % p = 0 → e = d := by decide
def Four (p : Nat) : Prop := p = 2 ∨ p = 3 ∨ p = 5 ∨ p = 7
theorem Four.mem {p : Nat} (h : Four p) : p ∈ [2, 3, 5, 7] := by
  rcases h with rfl | rfl | rfl | rfl <;> decide
theorem Four.two {p : Nat} (h : Four p) : 2 ≤ p := by
  rcases h with rfl | rfl | rfl | rfl <;> decide
theorem digit_int {p : Nat} (hp : Four p) (u c : Int) (hc : c % (p : Int) ≠ 0) : ∃ d < p, ∀ e : Nat, e < p → ((u + (e : Int) * c) % (p : Int) = 0 ↔ e = d) := by
  have p2 := hp.two
  have hu0 := Int.emod_nonneg u (show (p : Int) ≠ 0 by omega)
  have hu1 := Int.emod_lt_of_pos u (show (0 : Int) < p by omega)
  have hc0 := Int.emod_nonneg c (show (p : Int) ≠ 0 by omega)
  have hc1 := Int.emod_lt_of_pos c (show (0 : Int) < p by omega)
  have eu : (((u % (p : Int)).toNat : Nat) : Int) = u % p := by omega
  have ec : (((c % (p : Int)).toNat : Nat) : Int) = c % p := by omega
  obtain ⟨d, hd, h1, h2⟩ := digit_nat p hp.mem (u % (p : Int)).toNat (by omega) (c % (p : Int)).toNat (by omega) (by omega)
  have key : ∀ e : Nat, (u + (e : Int) * c) % (p : Int) = ((((u % (p : Int)).toNat + e * (c % (p : Int)).toNat) % p : Nat) : Int) := fun e => by
    push_cast
    rw [eu, ec, Int.add_emod u, Int.mul_emod (e : Int) c, Int.add_emod (u % p) ((e : Int) * (c % p)), Int.emod_emod, Int.mul_emod (e : Int) (c % p), Int.emod_emod]
  refine ⟨d, hd, fun e he => ⟨fun z => ?_, fun z => ?_⟩⟩
  · refine h2 e he ?_
    have := key e
    rw [z] at this
    omega
  · subst z
    rw [key e, h1]
    rfl
/-- a root modulo m whose slope's value p doesn't divide goes on in just one way -/
theorem next_one {f : List Int} {p m y : Nat} (hp : Four p) (hm : 0 < m) (hpm : p ∣ m) (hy : value f (y : Int) % (m : Int) = 0) (hd : dval f (y : Int) % (p : Int) ≠ 0) :
    ∃ d < p, ∀ e : Nat, e < p → (value f ((y + e * m : Nat) : Int) % ((m * p : Nat) : Int) = 0 ↔ e = d) := by
  obtain ⟨u, hu⟩ : ∃ u, value f (y : Int) = (m : Int) * u := by
    obtain ⟨u, h⟩ := Int.dvd_of_emod_eq_zero hy
    exact ⟨u, h⟩
  obtain ⟨k, hk⟩ := hpm
  obtain ⟨d, hd1, hd2⟩ := digit_int hp u (dval f (y : Int)) hd
  refine ⟨d, hd1, fun e he => ?_⟩
  rw [← hd2 e he]
  obtain ⟨q, eq⟩ := taylor f (y : Int) ((e : Int) * (m : Int))
  have ecast : ((y + e * m : Nat) : Int) = (y : Int) + (e : Int) * (m : Int) := by push_cast; rfl
  have emp : ((m * p : Nat) : Int) = (m : Int) * (p : Int) := by push_cast; rfl
  have hkm : (m : Int) = (p : Int) * (k : Int) := by rw [hk]; push_cast; rfl
  rw [ecast, emp, eq, hu]
  have e1 : (m : Int) * u + (e : Int) * (m : Int) * dval f (y : Int) + (e : Int) * (m : Int) * ((e : Int) * (m : Int)) * q = (m : Int) * ((u + (e : Int) * dval f (y : Int)) + (p : Int) * ((k : Int) * (e : Int) * (e : Int) * q)) := by
    have : (e : Int) * (m : Int) * ((e : Int) * (m : Int)) * q = (m : Int) * ((p : Int) * ((k : Int) * (e : Int) * (e : Int) * q)) := by
      have h2 : (e : Int) * (m : Int) * ((e : Int) * (m : Int)) * q = (m : Int) * ((m : Int) * ((e : Int) * (e : Int) * q)) := by grind
      rw [h2]
      congr 1
      rw [hkm]
      grind
    rw [this]
    grind
  rw [e1, Int.mul_emod_mul_of_pos _ _ (by omega), Int.add_mul_emod_self_left]
  constructor
  · intro z
    rcases Int.mul_eq_zero.mp z with z | z
    · omega
    · exact z
  · intro z
    rw [z, Int.mul_zero]
theorem filter_one {α : Type} (l : List α) (P : α → Bool) (a : α) (nd : l.Nodup) (ha : a ∈ l) (h : ∀ x ∈ l, P x = true ↔ x = a) : l.filter P = [a] := by
  induction l with
  | nil => cases ha
  | cons b l ih =>
    have nd' := List.nodup_cons.mp nd
    by_cases c : b = a
    · subst c
      have e : l.filter P = [] := by
        rw [List.filter_eq_nil_iff]
        intro x hx hP
        have := (h x (List.mem_cons_of_mem _ hx)).mp hP
        subst this
        exact nd'.1 hx
      rw [List.filter_cons, if_pos ((h b List.mem_cons_self).mpr rfl), e]
    · have hb : ¬ P b = true := fun z => c ((h b List.mem_cons_self).mp z)
      rw [List.filter_cons, if_neg hb]
      refine ih nd'.2 ?_ fun x hx => h x (List.mem_cons_of_mem _ hx)
      rcases List.mem_cons.mp ha with z | z
      · exact absurd z.symm c
      · exact z
theorem next_is {f : List Int} {p m y : Nat} (hp : Four p) (hm : 0 < m) (hpm : p ∣ m) (hy : value f (y : Int) % (m : Int) = 0) (hd : dval f (y : Int) % (p : Int) ≠ 0) :
    ∃ d < p, next f p m y = [y + d * m] := by
  obtain ⟨d, hd1, hd2⟩ := next_one hp hm hpm hy hd
  refine ⟨d, hd1, ?_⟩
  unfold next
  refine filter_one _ _ _ ?_ (List.mem_map.mpr ⟨d, List.mem_range.mpr hd1, rfl⟩) fun x hx => ?_
  · unfold List.Nodup
    rw [List.pairwise_map]
    refine (List.nodup_range (n := p)).imp ?_
    intro a b hab h
    apply hab
    exact Nat.eq_of_mul_eq_mul_right hm (by omega)
  · obtain ⟨e, he, rfl⟩ := List.mem_map.mp hx
    rw [beq_iff_eq, hd2 e (List.mem_range.mp he)]
    constructor
    · intro z
      rw [z]
    · intro z
      exact Nat.eq_of_mul_eq_mul_right hm (by omega)
/-- **the lifted root**: a root modulo the power, that leaves x, below the power; the step is the one root of the next power -/
theorem lift_spec {f : List Int} {p x : Nat} (hp : Four p) (hx : x < p) (hs : isSimple f p x = true) : ∀ n : Nat,
    lift f p x n < p ^ (n + 1) ∧ value f (lift f p x n : Int) % ((p ^ (n + 1) : Nat) : Int) = 0 ∧ lift f p x n % p = x ∧ dval f (lift f p x n : Int) % (p : Int) ≠ 0 ∧
      next f p (p ^ (n + 1)) (lift f p x n) = [lift f p x (n + 1)]
  | n => by
    have p2 := hp.two
    have hs0 := hs
    unfold isSimple at hs
    rw [Bool.and_eq_true, beq_iff_eq, bne_iff_ne, value_slope] at hs
    have base : lift f p x n < p ^ (n + 1) ∧ value f (lift f p x n : Int) % ((p ^ (n + 1) : Nat) : Int) = 0 ∧ lift f p x n % p = x := by
      cases n with
      | zero =>
        have e : lift f p x 0 = x := Nat.mod_eq_of_lt hx
        rw [e, Nat.zero_add, Nat.pow_one]
        exact ⟨hx, hs.1, Nat.mod_eq_of_lt hx⟩
      | succ n =>
        obtain ⟨h1, h2, h3, h4, h5⟩ := lift_spec hp hx hs0 n
        have hm : lift f p x (n + 1) ∈ next f p (p ^ (n + 1)) (lift f p x n) := by
          rw [h5]
          exact List.mem_singleton.mpr rfl
        obtain ⟨⟨d, hd, e1⟩, e2⟩ := mem_next.mp hm
        refine ⟨?_, ?_, ?_⟩
        · rw [e1, Nat.pow_succ p (n + 1)]
          have q : (d + 1) * p ^ (n + 1) ≤ p * p ^ (n + 1) := Nat.mul_le_mul_right _ hd
          rw [Nat.add_mul, Nat.one_mul] at q
          rw [Nat.mul_comm (p ^ (n + 1)) p]
          omega
        · rw [Nat.pow_succ p (n + 1)]
          exact e2
        · rw [e1, Nat.pow_succ, Nat.mul_comm (p ^ n) p, Nat.mul_left_comm, Nat.add_mul_mod_self_left]
          exact h3
    obtain ⟨b1, b2, b3⟩ := base
    have hd : dval f (lift f p x n : Int) % (p : Int) ≠ 0 := by
      rw [← dval_mod]
      have e : ((lift f p x n : Nat) : Int) % (p : Int) = (x : Int) := by
        have := congrArg (fun k : Nat => (k : Int)) b3
        simpa using this
      rw [e]
      exact hs.2
    refine ⟨b1, b2, b3, hd, ?_⟩
    obtain ⟨d, _, e⟩ := next_is hp (Nat.pow_pos (by omega)) ⟨p ^ n, by rw [Nat.pow_succ, Nat.mul_comm]⟩ b2 hd
    have e2 : lift f p x (n + 1) = ((next f p (p ^ (n + 1)) (lift f p x n)).head?).getD (lift f p x n) := rfl
    rw [e2, e]
    rfl
/-- it is the only one -/
theorem lift_only {f : List Int} {p x : Nat} (hp : Four p) (hx : x < p) (hs : isSimple f p x = true) : ∀ (n y : Nat), y < p ^ (n + 1) → y % p = x → value f (y : Int) % ((p ^ (n + 1) : Nat) : Int) = 0 → y = lift f p x n
  | 0, y, h1, h2, _ => by
    rw [Nat.zero_add, Nat.pow_one] at h1
    show y = x % p
    rw [← h2, Nat.mod_mod]
    exact (Nat.mod_eq_of_lt h1).symm
  | n + 1, y, h1, h2, h3 => by
    have p2 := hp.two
    have hm0 : 0 < p ^ (n + 1) := Nat.pow_pos (by omega)
    have hy : y ∈ roots f (p ^ (n + 1) * p) := mem_roots.mpr ⟨by rw [← Nat.pow_succ]; exact h1, by rw [← Nat.pow_succ]; exact h3⟩
    rw [← found_mem hm0] at hy
    obtain ⟨z, hz, hyz⟩ := List.mem_flatMap.mp hy
    have hz' := mem_roots.mp hz
    obtain ⟨⟨d, hd, e1⟩, e2⟩ := mem_next.mp hyz
    have hzx : z % p = x := by
      rw [← h2, e1, Nat.pow_succ, Nat.mul_comm (p ^ n) p, Nat.mul_left_comm, Nat.add_mul_mod_self_left]
    have ez := lift_only hp hx hs n z hz'.1 hzx hz'.2
    have h5 := (lift_spec hp hx hs n).2.2.2.2
    rw [← ez] at h5
    rw [h5] at hyz
    exact List.mem_singleton.mp hyz
end LR
namespace LR
open Na03

/-! ### fractions -/
theorem ratio_lt {x z : Int} {y w : Nat} (hy : 0 < y) (hw : 0 < w) : ((x : Rat) / ((y : Nat) : Rat) < (z : Rat) / ((w : Nat) : Rat)) ↔ x * (w : Int) < z * (y : Int) := by
  have hy' : (0 : Rat) < ((y : Nat) : Rat) := by
    have := Rat.natCast_pos.mpr hy
    exact this
  have hw' : (0 : Rat) < ((w : Nat) : Rat) := Rat.natCast_pos.mpr hw
  rw [Rat.div_lt_iff hy']
  have e : (z : Rat) / ((w : Nat) : Rat) * ((y : Nat) : Rat) = ((z : Rat) * ((y : Nat) : Rat)) / ((w : Nat) : Rat) := by
    rw [Rat.div_def, Rat.div_def, Rat.mul_assoc, Rat.mul_comm _ ((y : Nat) : Rat), ← Rat.mul_assoc]
  rw [e, Rat.lt_div_iff hw']
  have c1 : (x : Rat) * ((w : Nat) : Rat) = ((x * (w : Int) : Int) : Rat) := by
    rw [Rat.intCast_mul]
    rfl
  have c2 : (z : Rat) * ((y : Nat) : Rat) = ((z * (y : Int) : Int) : Rat) := by
    rw [Rat.intCast_mul]
    rfl
  rw [c1, c2]
  exact Rat.intCast_lt_intCast
theorem ratio_num (x : Int) {y : Nat} (hy : y ≠ 0) : ((x : Rat) / ((y : Nat) : Rat)).num = x / ((y.gcd x.natAbs : Nat) : Int) := by
  rw [← Rat.mkRat_eq_div, Rat.num_mkRat, if_neg hy]
theorem ratio_den (x : Int) {y : Nat} (hy : y ≠ 0) : ((x : Rat) / ((y : Nat) : Rat)).den = y / (y.gcd x.natAbs) := by
  rw [← Rat.mkRat_eq_div, Rat.den_mkRat, if_neg hy]
/-! ### the way that rises least -/
theorem steep_lt {a c d : Nat × Nat} (hc : a.1 < c.1) (hd : a.1 < d.1) : steep a c < steep a d ↔ ((c.2 : Int) - a.2) * ((d.1 : Int) - a.1) < ((d.2 : Int) - a.2) * ((c.1 : Int) - a.1) := by
  unfold steep
  rw [ratio_lt (by omega) (by omega)]
  have e1 : ((d.1 - a.1 : Nat) : Int) = (d.1 : Int) - a.1 := by omega
  have e2 : ((c.1 - a.1 : Nat) : Int) = (c.1 : Int) - a.1 := by omega
  rw [e1, e2]
theorem steep_num {a c : Nat × Nat} (hc : a.1 < c.1) : (steep a c).num = ((c.2 : Int) - a.2) / (((c.1 - a.1).gcd ((c.2 : Int) - a.2).natAbs : Nat) : Int) := ratio_num _ (by omega)
theorem steep_den {a c : Nat × Nat} (hc : a.1 < c.1) : (steep a c).den = (c.1 - a.1) / ((c.1 - a.1).gcd ((c.2 : Int) - a.2).natAbs) := ratio_den _ (by omega)
/-- the last of the least -/
theorem pick_is (a : Nat × Nat) : ∀ (r : List (Nat × Nat)) (b : Nat × Nat) (k : Nat) (c : Nat × Nat), (b :: r)[k]? = some c → (∀ j d, j < k → (b :: r)[j]? = some d → ¬ steep a d < steep a c) → (∀ j d, k < j → (b :: r)[j]? = some d → steep a c < steep a d) →
    r.foldl (fun c d => if steep a c < steep a d then c else d) b = c
  | [], b, k, c, hk, _, _ => by
    cases k with
    | zero => exact Option.some.inj hk
    | succ k => simp at hk
  | d :: r, b, k, c, hk, h1, h2 => by
    rw [List.foldl_cons]
    by_cases q : steep a b < steep a d
    · rw [if_pos q]
      cases k with
      | zero =>
        have e : b = c := Option.some.inj hk
        subst e
        refine pick_is a r b 0 b rfl (fun j _ hj => by omega) fun j x hj hx => ?_
        cases j with
        | zero => omega
        | succ j => exact h2 (j + 2) x (by omega) hx
      | succ k =>
        cases k with
        | zero =>
          have e : d = c := Option.some.inj hk
          subst e
          exact absurd q (h1 0 b (by omega) rfl)
        | succ k =>
          refine pick_is a r b (k + 1) c hk (fun j x hj hx => ?_) fun j x hj hx => ?_
          · cases j with
            | zero =>
              have e : b = x := Option.some.inj hx
              subst e
              exact h1 0 b (by omega) rfl
            | succ j => exact h1 (j + 2) x (by omega) hx
          · cases j with
            | zero => omega
            | succ j => exact h2 (j + 2) x (by omega) hx
    · rw [if_neg q]
      cases k with
      | zero =>
        have e : b = c := Option.some.inj hk
        subst e
        exact absurd (h2 1 d (by omega) rfl) q
      | succ k =>
        refine pick_is a r d k c hk (fun j x hj hx => ?_) fun j x hj hx => ?_
        · exact h1 (j + 1) x (by omega) hx
        · exact h2 (j + 1) x (by omega) hx
theorem dropWhile_to {l : List (Nat × Nat)} : ∀ {k : Nat} {c : Nat × Nat}, l.Nodup → l[k]? = some c → l.dropWhile (fun d => d != c) = l.drop k := by
  induction l with
  | nil =>
    intro k c _ h
    simp at h
  | cons a l ih =>
    intro k c nd h
    have nd' := List.nodup_cons.mp nd
    cases k with
    | zero =>
      have e : a = c := Option.some.inj h
      subst e
      rw [List.dropWhile_cons]
      simp
    | succ k =>
      have h' : l[k]? = some c := h
      have ne : a ≠ c := by
        intro e
        subst e
        exact nd'.1 (List.mem_of_getElem? h')
      rw [List.dropWhile_cons]
      have : (a != c) = true := bne_iff_ne.mpr ne
      rw [this, if_pos rfl, List.drop_succ_cons]
      exact ih nd'.2 h'
/-- points by their places -/
structure Rising (l : List (Nat × Nat)) : Prop where
  up : l.Pairwise fun a b => a.1 < b.1
theorem Rising.nodup {l : List (Nat × Nat)} (h : Rising l) : l.Nodup := h.up.imp fun {a b} hab e => by rw [e] at hab; omega
theorem Rising.drop {l : List (Nat × Nat)} (h : Rising l) (i : Nat) : Rising (l.drop i) := ⟨h.up.sublist (List.drop_sublist i l)⟩
theorem Rising.lt {l : List (Nat × Nat)} (h : Rising l) {i j : Nat} {a b : Nat × Nat} (hij : i < j) (ha : l[i]? = some a) (hb : l[j]? = some b) : a.1 < b.1 := by
  obtain ⟨hi, rfl⟩ := List.getElem?_eq_some_iff.mp ha
  obtain ⟨hj, rfl⟩ := List.getElem?_eq_some_iff.mp hb
  exact List.pairwise_iff_getElem.mp h.up i j hi hj hij
/-- where the next way ends: the last of the least behind i -/
structure Best (l : List (Nat × Nat)) (i k : Nat) : Prop where
  lt : i < k
  inn : k < l.length
  low : ∀ a c d j, l[i]? = some a → l[k]? = some c → i < j → j < k → l[j]? = some d → ¬ ((d.2 : Int) - a.2) * ((c.1 : Int) - a.1) < ((c.2 : Int) - a.2) * ((d.1 : Int) - a.1)
  last : ∀ a c d j, l[i]? = some a → l[k]? = some c → k < j → l[j]? = some d → ((c.2 : Int) - a.2) * ((d.1 : Int) - a.1) < ((d.2 : Int) - a.2) * ((c.1 : Int) - a.1)
theorem drop_at {l : List (Nat × Nat)} {i : Nat} {a : Nat × Nat} (h : l[i]? = some a) : l.drop i = a :: l.drop (i + 1) := by
  obtain ⟨hi, rfl⟩ := List.getElem?_eq_some_iff.mp h
  exact List.drop_eq_getElem_cons hi
theorem hull_step {l : List (Nat × Nat)} (R : Rising l) {i k n : Nat} (B : Best l i k) {a : Nat × Nat} (ha : l[i]? = some a) : hull (n + 1) (l.drop i) = a :: hull n (l.drop k) := by
  obtain ⟨c, hc⟩ : ∃ c, l[k]? = some c := ⟨l[k]'B.inn, List.getElem?_eq_getElem B.inn⟩
  have hlt := B.lt
  have hinn := B.inn
  obtain ⟨b, hb⟩ : ∃ b, l[i + 1]? = some b := ⟨l[i + 1]'(by omega), List.getElem?_eq_getElem (by omega)⟩
  have e1 := drop_at ha
  have e2 := drop_at hb
  rw [e1, e2]
  have hat : ∀ j, (b :: l.drop (i + 1 + 1))[j]? = l[i + 1 + j]? := fun j => by
    rw [← e2, List.getElem?_drop]
  have ep : (l.drop (i + 1 + 1)).foldl (fun c d => if steep a c < steep a d then c else d) b = c := by
    refine pick_is a _ b (k - (i + 1)) c ?_ (fun j d hj hd => ?_) fun j d hj hd => ?_
    · rw [hat]
      have : i + 1 + (k - (i + 1)) = k := by omega
      rw [this]
      exact hc
    · rw [hat] at hd
      rw [steep_lt (R.lt (by omega) ha hd) (R.lt hlt ha hc)]
      exact B.low a c d _ ha hc (by omega) (by omega) hd
    · rw [hat] at hd
      rw [steep_lt (R.lt hlt ha hc) (R.lt (by omega) ha hd)]
      exact B.last a c d _ ha hc (by omega) hd
  show (let c := (l.drop (i + 1 + 1)).foldl (fun c d => if steep a c < steep a d then c else d) b; a :: hull n ((b :: l.drop (i + 1 + 1)).dropWhile fun d => d != c)) = _
  rw [ep, ← e2]
  show a :: hull n ((l.drop (i + 1)).dropWhile fun d => d != c) = _
  have hk : (l.drop (i + 1))[k - (i + 1)]? = some c := by
    rw [List.getElem?_drop]
    have : i + 1 + (k - (i + 1)) = k := by omega
    rw [this]
    exact hc
  rw [dropWhile_to (R.drop (i + 1)).nodup hk, List.drop_drop]
  have : i + 1 + (k - (i + 1)) = k := by omega
  rw [this]
theorem hull_end {l : List (Nat × Nat)} {i n : Nat} {a : Nat × Nat} (ha : l[i]? = some a) (hi : i + 1 = l.length) : hull (n + 1) (l.drop i) = [a] := by
  rw [drop_at ha, List.drop_of_length_le (by omega)]
  rfl
theorem hull_nil (n : Nat) : hull n [] = [] := by cases n <;> rfl
/-! ### what is told of the slopes -/
def pairs (h : List (Nat × Nat)) : List (Rat × Nat) := (h.zip (h.drop 1)).map fun x => (steep x.1 x.2, x.2.1 - x.1.1)
theorem slopes_def (f : Poly) (p : Nat) : slopes f p = pairs (hull (f.length + 1) (points f p)) := rfl
theorem pairs_one (a : Nat × Nat) : pairs [a] = [] := rfl
theorem pairs_cons (a c : Nat × Nat) (t : List (Nat × Nat)) : pairs (a :: c :: t) = (steep a c, c.1 - a.1) :: pairs (c :: t) := rfl
/-- the hull from the i-th point on begins with it -/
theorem hull_head {l : List (Nat × Nat)} {i n : Nat} {a : Nat × Nat} (ha : l[i]? = some a) : ∃ t, hull (n + 1) (l.drop i) = a :: t := by
  rw [drop_at ha]
  cases e : l.drop (i + 1) with
  | nil => exact ⟨[], rfl⟩
  | cons b r => exact ⟨_, rfl⟩
/-- the ways from the i-th point on -/
def ways (l : List (Nat × Nat)) (n i : Nat) : List (Rat × Nat) := pairs (hull n (l.drop i))
theorem ways_step {l : List (Nat × Nat)} (R : Rising l) {i k n : Nat} (B : Best l i k) {a c : Nat × Nat} (ha : l[i]? = some a) (hc : l[k]? = some c) : ways l (n + 2) i = (steep a c, c.1 - a.1) :: ways l (n + 1) k := by
  unfold ways
  rw [hull_step R B ha]
  obtain ⟨t, ht⟩ := hull_head (n := n) hc
  rw [ht, pairs_cons]
theorem ways_end {l : List (Nat × Nat)} {i n : Nat} (hi : i + 1 = l.length) : ways l (n + 1) i = [] := by
  unfold ways
  have ha : l[i]? = some (l[i]'(by omega)) := List.getElem?_eq_getElem (by omega)
  rw [hull_end ha hi, pairs_one]
theorem ways_slopes (f : Poly) (p : Nat) : slopes f p = ways (points f p) (f.length + 1) 0 := by
  rw [slopes_def]
  rfl
def told3 (s : Rat × Nat) : List Int := fraction s.1 ++ [(s.2 : Int)]
theorem told3_steep {a c : Nat × Nat} (h : a.1 < c.1) : told3 (steep a c, c.1 - a.1) = [((c.2 : Int) - a.2) / (((c.1 - a.1).gcd ((c.2 : Int) - a.2).natAbs : Nat) : Int), (((c.1 - a.1) / ((c.1 - a.1).gcd ((c.2 : Int) - a.2).natAbs) : Nat) : Int), ((c.1 - a.1 : Nat) : Int)] := by
  show [(steep a c).num, ((steep a c).den : Int)] ++ [((c.1 - a.1 : Nat) : Int)] = _
  rw [steep_num h, steep_den h]
  rfl
/-! ### the points -/
theorem points_rising (f : Poly) (p : Nat) : Rising (points f p) := by
  constructor
  unfold points
  rw [List.pairwise_map]
  refine List.Pairwise.filter _ ?_
  rw [List.pairwise_iff_getElem]
  intro i j hi hj hij
  rw [List.getElem_zipIdx, List.getElem_zipIdx]
  show 0 + i < 0 + j
  omega
theorem points_len (f : Poly) (p : Nat) : (points f p).length ≤ f.length := by
  unfold points
  rw [List.length_map]
  refine Nat.le_trans (List.length_filter_le _ _) ?_
  rw [List.length_zipIdx]
  exact Nat.le_refl _
theorem points_ne {f : Poly} (h : Tight f) (hf : f ≠ []) (p : Nat) : points f p ≠ [] := by
  rcases tight_or f h with rfl | ⟨l, c, rfl, hc⟩
  · exact absurd rfl hf
  · unfold points
    intro e
    rw [List.map_eq_nil_iff, List.filter_eq_nil_iff] at e
    have hm : (c, l.length) ∈ (l ++ [c]).zipIdx := by
      rw [List.mk_mem_zipIdx_iff_getElem?]
      simp
    have := e _ hm
    simp at this
    exact hc this
/-- one number more -/
def pointOf (p : Nat) (i : Nat) (c : Int) : List (Nat × Nat) := if c = 0 then [] else [(i, val p 1000 c)]
theorem points_snoc (f : Poly) (c : Int) (p : Nat) : points (f ++ [c]) p = points f p ++ pointOf p f.length c := by
  unfold points pointOf
  rw [List.zipIdx_append, List.filter_append, List.map_append]
  congr 1
  by_cases h : c = 0
  · subst h
    simp
  · simp [h]
end LR
namespace LR
open Na03
/-! ### sums once more -/
theorem Sum_more {h : Nat → Int} : ∀ {n d : Nat}, (∀ i, n ≤ i → h i = 0) → Sum (n + d) h = Sum n h
  | _, 0, _ => rfl
  | n, d + 1, e => by
    rw [← Nat.add_assoc, Sum_succ, Sum_more e, e (n + d) (by omega), Int.add_zero]
theorem Sum_same {h : Nat → Int} {n m : Nat} (e1 : ∀ i, n ≤ i → h i = 0) (e2 : ∀ i, m ≤ i → h i = 0) : Sum n h = Sum m h := by
  rcases Nat.le_total n m with c | c
  · obtain ⟨d, rfl⟩ := Nat.exists_eq_add_of_le c
    exact (Sum_more e1).symm
  · obtain ⟨d, rfl⟩ := Nat.exists_eq_add_of_le c
    exact Sum_more e2
theorem Sum_rev : ∀ (n : Nat) (h : Nat → Int), Sum n h = Sum n fun i => h (n - 1 - i)
  | 0, _ => rfl
  | n + 1, h => by
    rw [Sum_succ, Sum_rev n h, Sum_cons n fun i => h (n + 1 - 1 - i)]
    have e : Sum n (fun i => h (n - 1 - i)) = Sum n (fun i => h (n + 1 - 1 - (i + 1))) := Sum_congr fun i hi => by congr 1; omega
    rw [e]
    have e2 : h (n + 1 - 1 - 0) = h n := rfl
    rw [e2]
    omega
theorem conv_comm (f g : List Int) (n : Nat) : conv f g n = conv g f n := by
  unfold conv
  rw [Sum_rev]
  refine Sum_congr fun i hi => ?_
  have e1 : n + 1 - 1 - i = n - i := by omega
  have e2 : n - (n + 1 - 1 - i) = i := by omega
  rw [e2, e1, Int.mul_comm]
/-! ### a product, term by term -/
def prodL (f g : List Int) : List Int := if f = [] ∨ g = [] then [] else (List.range (f.length + g.length - 1)).map (conv f g)
theorem prodL_times {f g : List Int} (hf : Tight f) (hg : Tight g) : prodL f g = times f g := by
  unfold prodL
  by_cases c1 : f = []
  · rw [if_pos (.inl c1), c1, times_nil_left]
  · by_cases c2 : g = []
    · rw [if_pos (.inr c2), c2, times_nil_right]
    · rw [if_neg (by rintro (z | z) <;> contradiction), times_full hf hg c1 c2]
/-- the n-th number once i numbers of f are done and j of the next -/
def part (f g : List Int) (i : Nat) (n : Nat) : Int := Sum i fun k => if k ≤ n then co f k * co g (n - k) else 0
def part2 (f g : List Int) (i j : Nat) (n : Nat) : Int := part f g i n + if i ≤ n ∧ n - i < j then co f i * co g (n - i) else 0
theorem part_zero (f g : List Int) (n : Nat) : part f g 0 n = 0 := rfl
theorem part2_zero (f g : List Int) (i n : Nat) : part2 f g i 0 n = part f g i n := by
  unfold part2
  rw [if_neg (by omega), Int.add_zero]
theorem part2_end (f g : List Int) (i n : Nat) : part2 f g i g.length n = part f g (i + 1) n := by
  unfold part2 part
  rw [Sum_succ]
  congr 1
  by_cases c : i ≤ n
  · rw [if_pos c]
    by_cases c2 : n - i < g.length
    · rw [if_pos ⟨c, c2⟩]
    · rw [if_neg (fun z => c2 z.2), co_out (f := g) (by omega), Int.mul_zero]
  · rw [if_neg (fun z => c z.1), if_neg c]
theorem part_end (f g : List Int) (n : Nat) : part f g f.length n = conv f g n := by
  unfold part conv
  have e : Sum (n + 1) (fun k => if k ≤ n then co f k * co g (n - k) else 0) = Sum (n + 1) fun i => co f i * co g (n - i) := Sum_congr fun i hi => if_pos (by omega)
  rw [← e]
  refine Sum_same (fun i hi => ?_) fun i hi => if_neg (by omega)
  rw [co_out hi, Int.zero_mul]
  exact ite_self 0
theorem part2_at (f g : List Int) (i j : Nat) : part2 f g i (j + 1) (i + j) = part2 f g i j (i + j) + co f i * co g j := by
  unfold part2
  have e : i + j - i = j := by omega
  rw [if_pos ⟨by omega, by omega⟩, if_neg (by omega), e]
  omega
theorem part2_off (f g : List Int) {i j n : Nat} (h : n ≠ i + j) : part2 f g i (j + 1) n = part2 f g i j n := by
  unfold part2
  congr 1
  by_cases c : i ≤ n ∧ n - i < j
  · rw [if_pos c, if_pos ⟨c.1, by omega⟩]
  · rw [if_neg c, if_neg (by omega)]
/-- the store of one turn -/
theorem part_set (f g : List Int) (i j N : Nat) : ((List.range N).map (part2 f g i j)).set (i + j) (part2 f g i j (i + j) + co f i * co g j) = (List.range N).map (part2 f g i (j + 1)) := by
  refine List.ext_getElem (by simp) fun n h1 h2 => ?_
  rw [List.getElem_set]
  simp only [List.getElem_map, List.getElem_range]
  split
  · rename_i e
    rw [← e, part2_at]
  · rename_i e
    exact (part2_off f g (Ne.symm e)).symm
/-! ### a move, step by step -/
def plusL (l : List Int) (a : Int) : List Int := match l with
  | [] => [a]
  | c :: r => (c + a) :: r
theorem list_ext_co {f g : List Int} (hl : f.length = g.length) (e : ∀ n, co f n = co g n) : f = g := by
  refine List.ext_getElem hl fun n h1 h2 => ?_
  have := e n
  rwa [co_in h1, co_in h2] at this
theorem tight_tail {a : Int} {f : List Int} (h : Tight (a :: f)) : Tight f := by
  refine tight_of_top ?_
  cases f with
  | nil => exact .inl rfl
  | cons b f =>
    right
    have := tight_top h (by simp)
    exact this
theorem co_plusL0 (l : List Int) (a : Int) : co (plusL l a) 0 = co l 0 + a := by
  cases l with
  | nil => show a = 0 + a; omega
  | cons c r => rfl
theorem co_plusLS (l : List Int) (a : Int) (n : Nat) : co (plusL l a) (n + 1) = co l (n + 1) := by
  cases l with
  | nil => rfl
  | cons c r => rfl
theorem conv_line0 (g : List Int) (c : Int) : conv g [c, 1] 0 = c * co g 0 := by rw [conv_comm, conv_cons_zero]
theorem conv_lineS (g : List Int) (c : Int) (n : Nat) : conv g [c, 1] (n + 1) = c * co g (n + 1) + co g n := by
  rw [conv_comm, conv_cons]
  congr 1
  cases n with
  | zero => rw [conv_cons_zero, Int.one_mul]
  | succ n => rw [conv_cons, conv_nil_left, Int.one_mul, Int.add_zero]
theorem co_prodL (f g : List Int) (n : Nat) : co (prodL f g) n = conv f g n := by
  unfold prodL
  by_cases c : f = [] ∨ g = []
  · rw [if_pos c, co_nil]
    rcases c with c | c
    · rw [c, conv_nil_left]
    · rw [c, conv_nil_right]
  · rw [if_neg c, co_range_map]
    split
    · rfl
    · exact (conv_out (by omega)).symm
theorem prodL_len {f g : List Int} (hf : f ≠ []) (hg : g ≠ []) : (prodL f g).length = f.length + g.length - 1 := by
  unfold prodL
  rw [if_neg (by rintro (z | z) <;> contradiction), List.length_map, List.length_range]
theorem prodL_len_le (f g : List Int) : (prodL f g).length ≤ f.length + g.length := by
  unfold prodL
  split
  · exact Nat.zero_le _
  · rw [List.length_map, List.length_range]
    omega
theorem moved_step {a : Int} {f : List Int} (h : Tight (a :: f)) (c : Int) : plusL (prodL (moved f c) [c, 1]) a = moved (a :: f) c := by
  have hf := tight_tail h
  have hl := moved_len hf c
  refine list_ext_co ?_ fun n => ?_
  · rw [moved_len h c]
    cases f with
    | nil => rfl
    | cons b f =>
      have hne : moved (b :: f) c ≠ [] := by
        intro z
        rw [z] at hl
        simp at hl
      have hp := prodL_len hne (show [c, 1] ≠ [] by simp)
      rw [hl] at hp
      have e : ∀ l : List Int, 0 < l.length → (plusL l a).length = l.length := fun l hl0 => by
        cases l with
        | nil => simp at hl0
        | cons x r => rfl
      simp only [List.length_cons, List.length_nil] at hp ⊢
      rw [e _ (by omega), hp]
      omega
  · cases n with
    | zero => rw [co_plusL0, co_prodL, conv_line0, co_moved0, Int.add_comm]
    | succ n => rw [co_plusLS, co_prodL, conv_lineS, co_movedS]
/-! ### the slope, untrimmed -/
def slopeAt (f : List Int) (i : Nat) : List Int := (List.range (i - 1)).map fun n => ((n + 1 : Nat) : Int) * co f (n + 1)
theorem slopeAt_one (f : List Int) : slopeAt f 1 = [] := rfl
theorem slopeAt_succ (f : List Int) {i : Nat} (h : 0 < i) : slopeAt f (i + 1) = slopeAt f i ++ [(i : Int) * co f i] := by
  obtain ⟨j, rfl⟩ : ∃ j, i = j + 1 := ⟨i - 1, by omega⟩
  unfold slopeAt
  show (List.range (j + 1)).map _ = (List.range j).map _ ++ _
  rw [List.range_succ, List.map_append]
  rfl
theorem slopeAt_value (f : List Int) (x : Int) : value (slopeAt f f.length) x = value (slope f) x := by
  have e : slope f = trim (slopeAt f f.length) := by
    unfold slope slopeAt
    rw [slope_list]
    congr 1
    refine List.map_congr_left fun n _ => ?_
    rw [Int.mul_comm]
  rw [e, value_trim]
/-! ### the least way, point by point -/
theorem cross_le {rn rk rj Rn Rk Rj : Int} (hn : 0 < Rn) (hk : 0 < Rk) (hj : 0 < Rj) (h1 : rn * Rk ≤ rk * Rn) (h2 : rk * Rj ≤ rj * Rk) : rn * Rj ≤ rj * Rn := by
  have a1 : rn * Rk * Rj ≤ rk * Rn * Rj := Int.mul_le_mul_of_nonneg_right h1 (by omega)
  have a2 : rk * Rj * Rn ≤ rj * Rk * Rn := Int.mul_le_mul_of_nonneg_right h2 (by omega)
  have a3 : rn * Rk * Rj = Rk * (rn * Rj) := by rw [Int.mul_comm rn Rk, Int.mul_assoc]
  have a4 : rk * Rn * Rj = rk * Rj * Rn := by rw [Int.mul_assoc, Int.mul_comm Rn Rj, ← Int.mul_assoc]
  have a5 : rj * Rk * Rn = Rk * (rj * Rn) := by rw [Int.mul_comm rj Rk, Int.mul_assoc]
  rw [a3, a4] at a1
  rw [a5] at a2
  exact Int.le_of_mul_le_mul_left (Int.le_trans a1 a2) hk
/-- the last of the least among the places behind i and ahead of n -/
structure BestTo (l : List (Nat × Nat)) (i k n : Nat) : Prop where
  lt : i < k
  inn : k < n
  low : ∀ a c d j, l[i]? = some a → l[k]? = some c → i < j → j < k → l[j]? = some d → ((c.2 : Int) - a.2) * ((d.1 : Int) - a.1) ≤ ((d.2 : Int) - a.2) * ((c.1 : Int) - a.1)
  last : ∀ a c d j, l[i]? = some a → l[k]? = some c → k < j → j < n → l[j]? = some d → ((c.2 : Int) - a.2) * ((d.1 : Int) - a.1) < ((d.2 : Int) - a.2) * ((c.1 : Int) - a.1)
theorem BestTo.start (l : List (Nat × Nat)) (i : Nat) : BestTo l i (i + 1) (i + 2) :=
  ⟨by omega, by omega, fun a c d j _ _ h1 h2 => by omega, fun a c d j _ _ h1 h2 => by omega⟩
theorem BestTo.keep {l : List (Nat × Nat)} {i k n : Nat} (B : BestTo l i k n) {a c d : Nat × Nat} (ha : l[i]? = some a) (hc : l[k]? = some c) (hd : l[n]? = some d)
    (h : ¬ ((d.2 : Int) - a.2) * ((c.1 : Int) - a.1) ≤ ((c.2 : Int) - a.2) * ((d.1 : Int) - a.1)) : BestTo l i k (n + 1) := by
  refine ⟨B.lt, Nat.lt_succ_of_lt B.inn, B.low, fun a' c' d' j ha' hc' h1 h2 hd' => ?_⟩
  rw [ha] at ha'
  rw [hc] at hc'
  cases ha'
  cases hc'
  by_cases e : j = n
  · subst e
    rw [hd] at hd'
    cases hd'
    exact Int.not_le.mp h
  · exact B.last a c d' j ha hc h1 (by omega) hd'
theorem BestTo.next {l : List (Nat × Nat)} (R : Rising l) {i k n : Nat} (B : BestTo l i k n) {a c d : Nat × Nat} (ha : l[i]? = some a) (hc : l[k]? = some c) (hd : l[n]? = some d)
    (h : ((d.2 : Int) - a.2) * ((c.1 : Int) - a.1) ≤ ((c.2 : Int) - a.2) * ((d.1 : Int) - a.1)) : BestTo l i n (n + 1) := by
  have b1 := B.lt
  have b2 := B.inn
  refine ⟨by omega, by omega, fun a' c' d' j ha' hc' h1 h2 hd' => ?_, fun a' c' d' j _ _ h1 h2 => by omega⟩
  rw [ha] at ha'
  rw [hd] at hc'
  cases ha'
  cases hc'
  have r1 := R.lt (show i < n by omega) ha hd
  have r2 := R.lt b1 ha hc
  have r3 := R.lt h1 ha hd'
  rcases Nat.lt_trichotomy j k with e | e | e
  · exact cross_le (by omega) (by omega) (by omega) h (B.low a c d' j ha hc h1 e hd')
  · subst e
    rw [hc] at hd'
    cases hd'
    exact h
  · exact cross_le (by omega) (by omega) (by omega) h (Int.le_of_lt (B.last a c d' j ha hc e h2 hd'))
theorem BestTo.best {l : List (Nat × Nat)} {i k : Nat} (B : BestTo l i k l.length) : Best l i k :=
  ⟨B.lt, B.inn, fun a c d j ha hc h1 h2 hd => Int.not_lt.mpr (B.low a c d j ha hc h1 h2 hd), fun a c d j ha hc h1 hd => B.last a c d j ha hc h1 (List.getElem?_eq_some_iff.mp hd).1 hd⟩
/-! ### points -/
theorem points_small {f : Poly} {p : Nat} : ∀ P ∈ points f p, P.1 < f.length ∧ P.2 ≤ 1000 := by
  intro P hP
  unfold points at hP
  obtain ⟨x, hx, rfl⟩ := List.mem_map.mp hP
  have hm := (List.mem_filter.mp hx).1
  have h1 := List.snd_lt_add_of_mem_zipIdx hm
  have hv : ∀ (n : Nat) (z : Int), val p n z ≤ n := by
    intro n
    induction n with
    | zero => exact fun z => Nat.le_refl _
    | succ n ih =>
      intro z
      show (if z % (p : Int) = 0 then 1 + val p n (z / (p : Int)) else 0) ≤ n + 1
      split
      · have := ih (z / (p : Int))
        omega
      · omega
  exact ⟨by simpa using h1, hv _ _⟩
theorem points_take (f : Poly) (p : Nat) {i : Nat} {c : Int} (h : f[i]? = some c) : points (f.take (i + 1)) p = points (f.take i) p ++ pointOf p i c := by
  have hi := (List.getElem?_eq_some_iff.mp h).1
  have e : f.take (i + 1) = f.take i ++ [c] := by rw [List.take_add_one, h]; rfl
  rw [e, points_snoc, List.length_take, Nat.min_eq_left (by omega)]
/-! ### digits -/
theorem digits_snoc (p : Nat) : ∀ (n x : Nat), digits p (n + 1) x = digits p n x ++ [x / p ^ n % p]
  | 0, x => by
    show [x % p] = [] ++ [x / p ^ 0 % p]
    rw [Nat.pow_zero, Nat.div_one]
    rfl
  | n + 1, x => by
    show x % p :: digits p (n + 1) (x / p) = x % p :: digits p n (x / p) ++ _
    rw [digits_snoc p n (x / p), Nat.div_div_eq_div_mul, Nat.pow_succ, Nat.mul_comm p]
    rfl
theorem digits_len (p : Nat) : ∀ (n x : Nat), (digits p n x).length = n
  | 0, _ => rfl
  | n + 1, x => by
    show (digits p n (x / p)).length + 1 = n + 1
    rw [digits_len p n]
end LR
set_option Elab.async false
set_option maxRecDepth 100000
set_option maxHeartbeats 2000000
namespace LR
open PySem PySem.Spec PyProof.Rows L2
/-! ### max(xs, default=d) of whole numbers -/
def rMaxDef (K : PySem.W.Frag) : List V → List V → Hp → VK → Prop := fun vs zs H Q => ∃ (a : Addr) (ns : List Int) (d : Int), vs = [V.ref a] ∧ zs = [.int d] ∧ SqL K H a (ns.map V.int) ∧
  (ns = [] → Q (.int d) H) ∧ ∀ m, m ∈ ns → (∀ y, y ∈ ns → y ≤ m) → Q (.int m) H
theorem dataLt_ints (a b : Int) : PySem.W.dataLt (.int a) (.int b) = decide (a < b) := PySem.W.dataLt_int a b
theorem maxD_ints : ∀ (ys : List Int) (y : Int), ∃ m, PySem.W.maxD (.int y) (ys.map PyData.int) = .int m ∧ (m = y ∨ m ∈ ys) ∧ y ≤ m ∧ ∀ z ∈ ys, z ≤ m
  | [], y => ⟨y, rfl, .inl rfl, Int.le_refl _, fun z hz => by cases hz⟩
  | z :: ys, y => by
    have e : PySem.W.maxD (.int y) ((z :: ys).map PyData.int) = PySem.W.maxD (if PySem.W.dataLt (.int y) (.int z) then .int z else .int y) (ys.map PyData.int) := rfl
    rw [e, dataLt_ints]
    by_cases c : y < z
    · rw [if_pos (decide_eq_true c)]
      obtain ⟨m, h1, h2, h3, h4⟩ := maxD_ints ys z
      refine ⟨m, h1, .inr ?_, by omega, fun x hx => ?_⟩
      · rcases h2 with rfl | h2
        · exact List.mem_cons_self
        · exact List.mem_cons_of_mem _ h2
      · rcases List.mem_cons.mp hx with rfl | hx
        · exact h3
        · exact h4 x hx
    · rw [if_neg (by simpa using c)]
      obtain ⟨m, h1, h2, h3, h4⟩ := maxD_ints ys y
      refine ⟨m, h1, ?_, h3, fun x hx => ?_⟩
      · rcases h2 with rfl | h2
        · exact .inl rfl
        · exact .inr (List.mem_cons_of_mem _ h2)
      · rcases List.mem_cons.mp hx with rfl | hx
        · omega
        · exact h4 x hx
theorem reads_ints {h : Heap} : ∀ {vs : List Value} {ns : List Int}, IntsAre vs ns → ReadsAll h vs (ns.map PyData.int) []
  | _, _, .nil => .nil
  | _, _, .cons n t r => ReadsAll.cons (as := []) (bs := []) (.int n t) (reads_ints r)
theorem depth_ints : ∀ ns : List Int, PyData.depthAll (ns.map PyData.int) = 0
  | [] => by simp [PyData.depthAll]
  | n :: ns => by
    rw [List.map_cons]
    unfold PyData.depthAll PyData.depth
    rw [depth_ints ns]
    rfl
theorem alike_ints (ns : List Int) : PySem.W.AlikeAll (ns.map PyData.int) := by
  refine ⟨fun x hx y hy => ?_, fun x hx => ?_⟩
  · obtain ⟨a, _, rfl⟩ := List.mem_map.mp hx
    obtain ⟨b, _, rfl⟩ := List.mem_map.mp hy
    simp [PySem.W.alike]
  · obtain ⟨a, _, rfl⟩ := List.mem_map.mp hx
    intro z
    cases z
theorem cr_maxDef {X : Cx} {k : Nat} (hc : X.calm = true) (hr : Room k X.A) : CallRK X (.builtin "max") [Str.ofString "default"] (rMaxDef X.K) := by
  intro pins s σ H vs zs us ws Q I r rz h
  obtain ⟨a, ns, d, rfl, rfl, hs, q0, q1⟩ := h
  obtain rfl := Vals.ref1 r
  obtain ⟨w1, rfl, e1⟩ := vals1 rz
  obtain ⟨t1, rfl⟩ : ∃ t, w1 = Value.int d t := e1
  obtain ⟨its, rv, hl, hz⟩ := I.list hs
  have hi := rv.ints
  refine PySem.W.max_list_default (xs := ns.map PyData.int) (as := []) (I.ok.hd hc) hl.isList (reads_ints hi) (alike_ints ns) ?_ (fun e h' tk hk => ?_) (fun y ys i v h' tk bs e hv rd hk => ?_)
  · rw [depth_ints]
    have := hr.units
    omega
  · have e0 : ns = [] := by
      cases ns with
      | nil => rfl
      | cons n ns => cases e
    exact ⟨.int d, H, I.kept hk, ⟨_, rfl⟩, q0 e0⟩
  · cases ns with
    | nil => cases e
    | cons n ns =>
      rw [List.map_cons] at e
      obtain ⟨rfl, rfl⟩ := List.cons.inj e
      obtain ⟨m, h1, h2, h3, h4⟩ := maxD_ints ns n
      rw [h1] at rd
      cases rd with
      | int i t =>
        refine ⟨.int m, H, I.kept hk, ⟨_, rfl⟩, q1 m ?_ fun y hy => ?_⟩
        · rcases h2 with rfl | h2
          · exact List.mem_cons_self
          · exact List.mem_cons_of_mem _ h2
        · rcases List.mem_cons.mp hy with rfl | hy
          · exact h3
          · exact h4 y hy
end LR
set_option Elab.async false
set_option maxRecDepth 100000
set_option maxHeartbeats 2000000
namespace LR
open PySem PySem.Spec PyProof.Rows L2
/-! ### xs.extend(t) with a tuple t -/
theorem meets_extT (l b : Addr) (xs ys : Array Value) (n k : Nat) (od : Option Addr) (sl : Array (Option Value)) (hx : xs.size + ys.size ≤ sizeLine) :
    Meets (Builtin.«list.extend» ⟨[.ref l, .ref b], []⟩) (fun _ R s =>
      (s.heap.get? l = some { cls := .type "list", dict := none, data := .seq xs n, slots := #[] } ∧
        s.heap.get? b = some { cls := .type "tuple", dict := od, data := .seq ys k, slots := sl }) ∧
      R (.ok (.ret Value.none)) { s with heap := s.heap.update l (Obj.mapSeq fun x => x ++ ys), toks := s.toks }) := by
  refine .of_wp fun prog w A R s h => ?_
  obtain ⟨hp, g, d, tk, os⟩ := s
  obtain ⟨⟨h1, h2⟩, h⟩ := h
  have g1 := AutoSeq1.idx_int
  have g2 := AutoSeq1.sub_tuple_tuple
  have g3 := AutoSeq1.sub_list_list
  have g4 := AutoSeq1.sub_tuple_list
  have g5 := AutoSeq1.sub_list_tuple
  have z0 : ¬ (!xs.isEmpty && Builtin.List.listTooLong (xs.size + ys.size)) = true := by
    rw [notLongL hx, Bool.and_false]
    decide
  have z1 : xs.size ≤ sizeLine := by omega
  have z2 : (xs ++ ys).size ≤ sizeLine + 1 := by
    rw [Array.size_append]
    omega
  wp_walk using (wpAny_updateSeq h1 rfl (hz := z1) (_hz' := z2)), AutoSeq1.wpAny_loadPart' h1, AutoSeq1.wpAny_loadPart' h2
  exact ⟨_, rfl, h⟩
def rExtT (K : PySem.W.Frag) : V → List V → Hp → VK → Prop := fun x vs H Q => ∃ l b xs zs, x = .ref l ∧ vs = [.ref b] ∧ H l = some (.lst xs) ∧ SqT K H b zs ∧
  xs.length + zs.length ≤ sizeLine ∧ Q .non (upd H l (.lst (xs ++ zs)))
theorem mt_extT {X : Cx} : MtM X "list.extend" (rExtT X.K) := by
  intro pins s σ H x vs v us Q I rx rv h
  obtain ⟨l, b, xs, zs, e0, e1, hl, hb, hz, q⟩ := h
  subst e0 e1
  cases rx
  obtain ⟨u, eu, ru⟩ := rv.one
  subst eu
  cases ru
  obtain ⟨_, its, n, r1, len1, at1⟩ := I.lstM hl
  obtain ⟨js, r2, ⟨⟨oc, od, dat, sl⟩, at2, ec, k, ed⟩, _⟩ := I.tuple hb
  have len2 := r2.length
  dsimp only at ec ed
  subst ec ed
  have hsz : its.toArray.size + js.toArray.size ≤ sizeLine := by simp only [List.size_toArray]; omega
  refine call_meets F.slot_list_extend ⟨_, at1, rfl⟩ F.entry_list_extend (F.args_list_extend_2 _ _) (meets_extT l b its.toArray js.toArray n k od sl hsz) ⟨⟨at1, at2⟩, .non, _, ?_, rfl, q⟩
  refine I.lset (its' := its ++ js) hl at1 (by simp) (r1.append r2) ?_
  rw [List.length_append]
  exact hz
/-! ### range(i, j, c) with a great step -/
def RgW (i j c : Int) (n : Nat) : Prop := (c ≠ 0 ∧ c.natAbs < 2 ^ 100) ∧ Builtin.Range.small i j c = true ∧ Builtin.Range.rangeSize i j c = n
def iRngW (ta : TA) : TI := fun σ H R => ta σ H fun vs H1 => ∃ (i j c : Int) (n : Nat), vs = [.int i, .int j, .int c] ∧ RgW i j c n ∧ R (Itc i c n) H1
theorem pi_rangeW {X : Cx} {tg a b c : Expr} {ta : TA} {p pos : Pos} (hg : Gl X "range") (hm : X.mg "range" = none) (ha : PA X [a, b, c] ta)
    (h1 : starEach [a, b, c] X.env = (false, eval a X.env) :: starEach [b, c] X.env := by rfl)
    (h2 : (backTo pos (starEach [b, c] X.env)).any (·.1) = false := by rfl) : PI X tg (.Call (.Name "range" p) [a, b, c] [] pos) (iRngW ta) := by
  constructor
  intro pins s σ H R I h
  have go := ha.run pos pins s σ H _ I h
  refine Call_ (ld_blt I hg hm boot_range (PyProof.Rows.callWith_type1 (thn go ?_) h1 h2))
  rintro us s1 ⟨vs, H1, I1, r1, i, j, k, n, e, ⟨⟨c0, c1⟩, c2, c3⟩, q⟩
  subst e
  obtain ⟨r, rr⟩ : ∃ u us', us = u :: us' ∧ RelV (.int i) u ∧ Vals [.int j, .int k] us' := by
    cases r1 with
    | cons r rr => exact ⟨_, _, rfl, r, rr⟩
  obtain ⟨us', eu, ru, rr⟩ := rr
  subst eu
  obtain ⟨u2, us2, eu, ru2, rs⟩ : ∃ u us2, us' = u :: us2 ∧ RelV (.int j) u ∧ Vals [.int k] us2 := by
    cases rr with
    | cons r rr => exact ⟨_, _, rfl, r, rr⟩
  subst eu
  obtain ⟨u3, eu, ru3⟩ := rs.one
  subst eu
  obtain ⟨t, e⟩ := ru
  obtain ⟨t', e'⟩ := ru2
  obtain ⟨t'', e''⟩ := ru3
  subst e e' e''
  have big : k.natAbs.log2 < 9000 := by
    have := PySem.Flt.log2_lt_of (show 0 < 100 by decide) c1
    omega
  refine call_range_3 c0 (wpAny_pyIter_range (IsRange.new ..) c2 ?_) (.inl (PyProof.noPylong_of_log2 big))
  refine pi_one (tk := s1.toks) (I1.kept (t' := s1.toks) fun b o e => Heap.get?_push_of_some _ e) _ (turn_rangeC _ i k n) ?_ q
  have z1 : i + ((0 : Nat) : Int) * k = i := by simp
  have z2 : (n : Int) - ((0 : Nat) : Int) = Builtin.Range.rangeSize i j k := by
    rw [c3]
    simp
  show IsRangeIter _ _ (i + ((0 : Nat) : Int) * k) ((n : Int) - ((0 : Nat) : Int)) k
  rw [z1, z2]
  exact Heap.get?_push_size _ rfl
end LR
set_option Elab.async false
set_option maxRecDepth 100000
set_option maxHeartbeats 2000000
set_option linter.unusedVariables false
namespace LR
open PySem PySem.Spec PyProof.Rows L2
theorem if_true_of {c : Bool} {A B : Prop} (hc : c = true) (h : A) : if c = true then A else B := by
  rw [if_pos hc]
  exact h
theorem if_false_of {c : Bool} {A B : Prop} (hc : c = false) (h : B) : if c = true then A else B := by
  rw [hc, if_neg Bool.false_ne_true]
  exact h
theorem rgW_up {x m p : Nat} (hp : 0 < p) (hm : 0 < m) (hx : x < m) (hb : m * p < 2 ^ 62) : RgW (x : Int) ((m * p : Nat) : Int) (m : Int) p := by
  have hmp : m * 1 ≤ m * p := Nat.mul_le_mul_left m hp
  have e : Builtin.Range.rangeSize (x : Int) ((m * p : Nat) : Int) (m : Int) = p := by
    unfold Builtin.Range.rangeSize
    rw [if_pos (by omega)]
    cases p with
    | zero => omega
    | succ q =>
      have e0 : m * (q + 1) = m * q + m := by rw [Nat.mul_succ]
      rw [if_pos (by omega)]
      have e1 : (((m * (q + 1) : Nat) : Int) - (x : Int) - 1) / (m : Int) = q := by
        rw [e0]
        have : (((m * q + m : Nat) : Int) - (x : Int) - 1) = (m : Int) * (q : Int) + ((m : Int) - x - 1) := by push_cast; omega
        rw [this, Int.add_comm, Int.add_mul_ediv_left _ _ (by omega), Int.ediv_eq_zero_of_lt (by omega) (by omega)]
        omega
      rw [e1]
      push_cast
      rfl
  refine ⟨⟨by omega, by rw [Int.natAbs_natCast]; omega⟩, ?_, e⟩
  unfold Builtin.Range.small
  rw [e]
  simp only [Builtin.Range.rangeFitsLong, Bool.and_eq_true, Bool.or_eq_true, decide_eq_true_eq, beq_iff_eq]
  rw [if_pos (show (m : Int) > 0 by omega)]
  have : p ≤ m * p := Nat.le_mul_of_pos_left p hm
  refine ⟨⟨⟨⟨?_, ?_⟩, ?_⟩, ?_⟩, .inr ?_⟩ <;> (try simp only [Bool.and_eq_true, decide_eq_true_eq]) <;> omega
theorem Same.new {H : Hp} {p : Addr} (hp : H p = none) (o : HO) : Same H (upd H p o) := fun b u e => by
  have : b ≠ p := by
    intro z
    subst z
    rw [hp] at e
    cases e
  rw [upd_ne this]
  exact e
def top (i : Nat) : Stmt := PySem.Challenge.pw_liftedroots_s01_answers.main.body.getD i (.Pass ⟨0, 0, 0, 0⟩)
/-- a def of the top, by its name -/
structure Has (P : Program) (w : World) (K : PySem.W.Frag) (mg : Str → Option Value) (base : Heap) (k : Nat) (x : Str) (ps : List Str) (sp : Sp) : Prop where
  ex : ∃ (f : Addr) (fd : FuncData), FnOk P w K mg base CX0 k f fd ps sp ∧ mg x = some (.ref f) ∧ PySem.W.keepIn K (.ref f) = true ∧ Binds K fd ps []
/-- Python's own names, which the top leaves as they are -/
structure Own (mg : Str → Option Value) : Prop where
  len : mg "len" = none
  list : mg "list" = none
  reversed : mg "reversed" = none
  range : mg "range" = none
  sorted : mg "sorted" = none
  max : mg "max" = none
  enumerate : mg "enumerate" = none
  abs : mg "abs" = none
/-- a new list of these numbers, all else as it was -/
def Gives (l : List Int) (H : Hp) (Q : VK) : Prop := ∀ q H', Same H H' → H q = none → H' q = some (.lst (l.map V.int)) → Q (.ref q) H'
abbrev sFH : Stmt := top 1
section
variable {P : Program} {w : World} {K : PySem.W.Frag} {mg : Str → Option Value} {base : Heap}
def spFH : Sp := fun vs H Q _ => ∃ z : Int, vs = [.int z] ∧ Q (.int (fromHanded z)) H
theorem scFH : FnScope ["handed"] ["handed"] (defScope sFH) := ⟨rfl, rfl, rfl, by decide +kernel, rfl, by decide +kernel, by decide +kernel⟩
theorem ok_FH {f : Addr} {fd : FuncData} (F : Fun K "from_handed" "from_handed" sFH f fd) : FnOk P w K mg base CX0 1 f fd ["handed"] spFH := by
  refine F.ok scFH (fun vs H Q E h => ?_) (fun cdv A outer s H vs Q E hr h => ?_)
  · obtain ⟨z, rfl, _⟩ := h
    rfl
  · obtain ⟨z, rfl, h⟩ := h
    refine ⟨_, pss_cons (ps_if (pt_cmpR op_eq (pe_op op_modN (pv 0) pe_int) pe_int (nomark _)) (pss_one (ps_ret (pe_op op_fdivN (pv 0) pe_int))) pss_nil)
      (pss_one (ps_ret (pe_un un_neg (pe_op op_fdivN (pe_op op_add (pv 0) pe_int) pe_int)))), ?_⟩
    refine ⟨_, rfl, _, _, rfl, rfl, (show (2 : Int) ≠ 0 by decide), rfl, _, rfl, ?_⟩
    unfold fromHanded at h
    by_cases c : z % 2 = 0
    · rw [if_pos c] at h
      refine if_true_of (decide_eq_true (congrArg V.int ((Int.fmod_eq_emod_of_nonneg z (by decide)).trans c))) ?_
      refine ⟨_, rfl, _, _, rfl, rfl, ⟨by decide, by decide⟩, ?_⟩
      show Q (.int (z.fdiv 2)) H
      rw [Int.fdiv_eq_ediv_of_nonneg z (by decide)]
      exact h
    · rw [if_neg c] at h
      refine if_false_of (decide_eq_false fun e => c ?_) ?_
      · rw [← Int.fmod_eq_emod_of_nonneg z (by decide)]
        exact V.int.inj e
      · refine ⟨_, rfl, _, _, rfl, rfl, _, _, rfl, rfl, ⟨by decide, by decide⟩, _, rfl, ?_⟩
        show Q (.int (-((z + 1).fdiv 2))) H
        rw [Int.fdiv_eq_ediv_of_nonneg (z + 1) (by decide)]
        exact h

/-! ### without_last_zeros -/
abbrev sWZ : Stmt := top 2
def spWZ (K : PySem.W.Frag) : Sp := fun vs H Q _ => ∃ (a : Addr) (f : List Int), vs = [.ref a] ∧ SqL K H a (f.map V.int) ∧ f.length ≤ sizeLine ∧
  ∀ p, H p = none → Q (.ref p) (upd H p (.lst ((Na03.trim f).map V.int)))
theorem scWZ : FnScope ["numbers", "kept"] ["numbers"] (defScope sWZ) := ⟨rfl, rfl, rfl, by decide +kernel, rfl, by decide +kernel, by decide +kernel⟩
theorem ok_WZ {f : Addr} {fd : FuncData} (F : Fun K "without_last_zeros" "without_last_zeros" sWZ f fd) (O : Own mg) : FnOk P w K mg base CX0 1 f fd ["numbers"] (spWZ K) := by
  refine F.ok scWZ (fun vs H Q E h => ?_) (fun cdv A outer s H vs Q E hr h => ?_)
  · obtain ⟨a, f, rfl, _⟩ := h
    rfl
  · obtain ⟨a, f, rfl, hS, hz, h⟩ := h
    refine ⟨_, pss_cons (ps_set (i := 1) scWZ.nd rfl (Or.inl rfl) (pe_callTy call_list_of (by rfl) O.list (by decide +kernel) (pa_cons (pv 0) pa_nil)))
      (pss_cons (ps_while PassesOwn.never (PW.pt (pw_and (pt_cmpR op_gt (pe_callB call_len_seq (by rfl) O.len PySem.boot_len (pa_cons (pv 1) pa_nil)) pe_int (nomark _))
          (pw_and1 (pt_cmpR op_eq (pe_ix ix_list (pv 1) (pe_un un_neg pe_int) (fun _ _ => rfl)) pe_int (nomark _)))))
        (pss_one (ps_expr (pe_bm0 PySem.F.plainAttrs_list PySem.F.slot_list_pop PySem.F.type_list_pop mt_pop (pv 1)))))
      (pss_one (ps_ret (pv 1)))), ?_⟩
    refine ⟨_, rfl, a, _, rfl, .inl hS, fun p hp => ?_⟩
    refine ⟨fun m σ H' => ∃ l : List Int, m = l.length ∧ σ = [some (.ref a), some (.ref p)] ∧ H' = upd H p (.lst (l.map V.int)) ∧ Na03.trim l = Na03.trim f, ⟨f.length, f, rfl, rfl, rfl, rfl⟩, ?_⟩
    rintro m σ H' ⟨l, rfl, rfl, rfl, e⟩
    refine ⟨_, rfl, p, _, rfl, .inl (SqL.of upd_same), _, _, rfl, rfl, _, rfl, ?_⟩
    rw [List.length_map]
    rcases List.eq_nil_or_concat l with rfl | ⟨l', c, rfl⟩
    · refine if_false_of (by decide) ?_
      refine ⟨_, rfl, ?_⟩
      have h' := h p hp
      rw [← e] at h'
      exact h'
    · rw [List.concat_eq_append] at e ⊢
      refine if_true_of (decide_eq_true (by simp)) ?_
      refine ⟨_, rfl, _, rfl, p, _, _, _, rfl, rfl, SqL.of upd_same, (by rw [List.map_append]; exact atI_last _ _), rfl, _, rfl, ?_⟩
      by_cases hc : c = 0
      · subst hc
        refine if_true_of (decide_eq_true rfl) ?_
        refine ⟨_, fun σ' H' hN => hN, _, rfl, .inl ⟨rfl, _, SqL.of upd_same⟩, p, _, .int 0, rfl, rfl, upd_same, ?_, ?_⟩
        · rw [List.map_append, List.length_append]
          simp
        · refine ⟨l'.length, by simp, l', rfl, rfl, ?_, ?_⟩
          · rw [upd_upd, List.map_append]
            simp
          · rw [← e, trim_snoc]
      · refine if_false_of (decide_eq_false fun z => hc (V.int.inj z)) ?_
        refine ⟨_, rfl, ?_⟩
        rw [trim_end hc] at e
        have h' := h p hp
        rw [← e] at h'
        exact h'

/-! ### value_for -/
abbrev sVF : Stmt := top 3
def spVF (K : PySem.W.Frag) : Sp := fun vs H Q _ => ∃ (a : Addr) (f : List Int) (x : Int), vs = [.ref a, .int x] ∧ SqL K H a (f.map V.int) ∧ (-(2 ^ 64) < x ∧ x < 2 ^ 64) ∧ Q (.int (Na03.value f x)) H
theorem scVF : FnScope ["numbers", "x", "total", "number"] ["numbers", "x"] (defScope sVF) := ⟨rfl, rfl, rfl, by decide +kernel, rfl, by decide +kernel, by decide +kernel⟩
theorem take_more {α : Type} {l : List α} {i : Nat} {x : α} (h : l[i]? = some x) : l.take (i + 1) = l.take i ++ [x] := by
  rw [List.take_add_one, h]
  rfl
theorem ok_VF {f : Addr} {fd : FuncData} (F : Fun K "value_for" "value_for" sVF f fd) (O : Own mg) : FnOk P w K mg base CX0 1 f fd ["numbers", "x"] (spVF K) := by
  refine F.ok scVF (fun vs H Q E h => ?_) (fun cdv A outer s H vs Q E hr h => ?_)
  · obtain ⟨a, f, x, rfl, _⟩ := h
    rfl
  · obtain ⟨a, f, x, rfl, hS, hx, h⟩ := h
    refine ⟨_, pss_cons (ps_set (i := 2) scVF.nd rfl (Or.inl rfl) pe_int)
      (pss_cons (ps_for PassesOwn.never rfl (pi_reversed (by rfl) O.reversed (pa_cons (pv 0) pa_nil)) (pg_name (i := 3) scVF.nd rfl (Or.inl rfl))
        (pss_one (ps_set (i := 2) scVF.nd rfl (Or.inl rfl) (pe_op op_add (pe_op op_mul (pv 2) (pv 1)) (pv 3)))))
      (pss_one (ps_ret (pv 2)))), ?_⟩
    refine ⟨_, rfl, a, _, rfl, hS, RT.for_Itv (fun i σ H' => H' = H ∧ ∃ v : Option V, σ = [some (.ref a), some (.int x), some (.int ((f.reverse.take i).foldl (fun t c => t * x + c) 0)), v]) ⟨rfl, none, rfl⟩ ?_ ?_ ?_⟩
    · rintro i σ H' ⟨rfl, _⟩
      exact hS
    · rintro i y σ H' hi hy ⟨rfl, v, rfl⟩
      rw [List.length_map] at hi hy
      rw [List.getElem?_map] at hy
      obtain ⟨z, hz, rfl⟩ := Option.map_eq_some_iff.mp hy
      refine ⟨_, rfl, _, rfl, _, _, rfl, rfl, .inr hx, _, rfl, _, _, rfl, rfl, rfl, some (.int z), ?_⟩
      have e : f.reverse[i]? = some z := by
        rw [List.getElem?_reverse hi]
        exact hz
      rw [take_more e, List.foldl_append]
      rfl
    · rintro σ H' ⟨rfl, v, rfl⟩
      refine ⟨_, rfl, ?_⟩
      rw [List.length_map, ← List.length_reverse, List.take_length]
      have e := horner_eq f x
      unfold horner at e
      rw [e]
      exact h

/-! ### times_divided -/
abbrev sTD : Stmt := top 8
def spTD : Sp := fun vs H Q _ => ∃ (z : Int) (p : Nat), vs = [.int z, .int (p : Int)] ∧ z ≠ 0 ∧ z.natAbs < 2 ^ 1000 ∧ 2 ≤ p ∧ p < 1000 ∧ Q (.int (Na03.val p 1000 z : Nat)) H
theorem scTD : FnScope ["number", "prime", "rest", "times"] ["number", "prime"] (defScope sTD) := ⟨rfl, rfl, rfl, by decide +kernel, rfl, by decide +kernel, by decide +kernel⟩
theorem ok_TD {f : Addr} {fd : FuncData} (F : Fun K "times_divided" "times_divided" sTD f fd) : FnOk P w K mg base CX0 1 f fd ["number", "prime"] spTD := by
  refine F.ok scTD (fun vs H Q E h => ?_) (fun cdv A outer s H vs Q E hr h => ?_)
  · obtain ⟨z, p, rfl, _⟩ := h
    rfl
  · obtain ⟨z, p, rfl, hz, hb, hp, hp2, h⟩ := h
    refine ⟨_, pss_cons (ps_set (i := 2) scTD.nd rfl (Or.inl rfl) (pv 0)) (pss_cons (ps_set (i := 3) scTD.nd rfl (Or.inl rfl) pe_int)
      (pss_cons (ps_while PassesOwn.never (pt_cmpR op_eq (pe_op op_modN (pv 2) (pv 1)) pe_int (nomark _))
        (pss_cons (ps_set (i := 2) scTD.nd rfl (Or.inl rfl) (pe_op op_fdivN (pv 2) (pv 1))) (pss_one (ps_set (i := 3) scTD.nd rfl (Or.inl rfl) (pe_op op_add (pv 3) pe_int)))))
      (pss_one (ps_ret (pv 3))))), ?_⟩
    refine ⟨_, rfl, ?_⟩
    refine ⟨fun m σ H' => ∃ (r : Int) (t u : Nat), m = u ∧ σ = [some (.int z), some (.int p), some (.int r), some (.int (t : Nat))] ∧ H' = H ∧ r ≠ 0 ∧ t + u = 1000 ∧ r.natAbs < 2 ^ u ∧ Na03.val p 1000 z = t + Na03.val p u r,
      ⟨1000, z, 0, 1000, rfl, rfl, rfl, hz, rfl, hb, by omega⟩, ?_⟩
    rintro m σ H' ⟨r, t, u, rfl, rfl, rfl, hr0, htu, hru, e⟩
    have p0 : (p : Int) ≠ 0 := by omega
    refine ⟨_, rfl, _, rfl, _, _, rfl, rfl, p0, rfl, _, rfl, ?_⟩
    have em : r.fmod p = r % p := Int.fmod_eq_emod_of_nonneg r (by omega)
    have ed : r.fdiv p = r / p := Int.fdiv_eq_ediv_of_nonneg r (by omega)
    by_cases c : r % (p : Int) = 0
    · refine if_true_of (decide_eq_true (congrArg V.int (em.trans c))) ?_
      refine ⟨_, fun σ' H' hN => hN, _, rfl, _, rfl, _, _, rfl, rfl, ⟨p0, by omega⟩, _, rfl, _, _, rfl, rfl, ?_⟩
      have hm : (p : Int) * (r / p) = r := Int.mul_ediv_cancel' (Int.dvd_of_emod_eq_zero c)
      have hq0 : r / (p : Int) ≠ 0 := fun z0 => hr0 (by rw [← hm, z0, Int.mul_zero])
      have hq1 : 2 * (r / (p : Int)).natAbs ≤ r.natAbs := by
        have h1 := congrArg Int.natAbs hm
        rw [Int.natAbs_mul, Int.natAbs_natCast] at h1
        rw [← h1]
        exact Nat.mul_le_mul_right _ hp
      obtain ⟨u', rfl⟩ : ∃ u', m = u' + 1 := by
        cases m with
        | zero =>
          have h2 : 0 < r.natAbs := Int.natAbs_pos.mpr hr0
          have h3 : r.natAbs < 1 := hru
          omega
        | succ u' => exact ⟨u', rfl⟩
      rw [Nat.pow_succ] at hru
      refine ⟨u', by omega, r / p, t + 1, u', rfl, ?_, rfl, hq0, by omega, by omega, ?_⟩
      · rw [← ed]
        rfl
      · rw [e, val_go c]
        omega
    · refine if_false_of (decide_eq_false fun z0 => c (em.symm.trans (V.int.inj z0))) ?_
      refine ⟨_, rfl, ?_⟩
      rw [e, val_stop c] at h
      exact h

/-! ### power_of -/
abbrev sPO : Stmt := top 9
def spPO : Sp := fun vs H Q _ => ∃ (p k : Nat), vs = [.int (p : Int), .int (k : Int)] ∧ p < 1000 ∧ k < 1000 ∧ Q (.int ((p ^ k : Nat) : Int)) H
theorem scPO : FnScope ["prime", "k", "power", "step"] ["prime", "k"] (defScope sPO) := ⟨rfl, rfl, rfl, by decide +kernel, rfl, by decide +kernel, by decide +kernel⟩
theorem ok_PO {f : Addr} {fd : FuncData} (F : Fun K "power_of" "power_of" sPO f fd) (O : Own mg) : FnOk P w K mg base CX0 1 f fd ["prime", "k"] spPO := by
  refine F.ok scPO (fun vs H Q E h => ?_) (fun cdv A outer s H vs Q E hr h => ?_)
  · obtain ⟨p, k, rfl, _⟩ := h
    rfl
  · obtain ⟨p, k, rfl, hp, hk, h⟩ := h
    refine ⟨_, pss_cons (ps_set (i := 2) scPO.nd rfl (Or.inl rfl) pe_int)
      (pss_cons (ps_for PassesOwn.never rfl (pi_range1 rfl O.range (pa_cons (pv 1) pa_nil)) (pg_name (i := 3) scPO.nd rfl (Or.inl rfl))
        (pss_one (ps_set (i := 2) scPO.nd rfl (Or.inl rfl) (pe_op op_mul (pv 2) (pv 0)))))
      (pss_one (ps_ret (pv 2)))), ?_⟩
    refine ⟨_, rfl, k, rfl, by omega, by omega, for_range (n := k) (fun i σ H' => H' = H ∧ ∃ v : Option V, σ = [some (.int p), some (.int k), some (.int ((p ^ i : Nat) : Int)), v]) ⟨rfl, none, rfl⟩ ?_ ?_⟩
    · rintro i σ H' hi ⟨rfl, v, rfl⟩
      refine ⟨_, rfl, _, rfl, _, _, rfl, rfl, .inr ⟨by omega, by omega⟩, rfl, some (.int (0 + i)), ?_⟩
      rw [Nat.pow_succ]
      push_cast
      rfl
    · rintro σ H' ⟨rfl, v, rfl⟩
      exact ⟨_, rfl, h⟩

/-! ### is_root -/
abbrev sIR : Stmt := top 10
def spIR (K : PySem.W.Frag) : Sp := fun vs H Q _ => ∃ (a : Addr) (f : List Int) (m : Nat) (x : Int), vs = [.ref a, .int (m : Int), .int x] ∧ SqL K H a (f.map V.int) ∧ 0 < m ∧ m < 2 ^ 64 ∧
  Q (.bl (decide (0 ≤ x ∧ x < m ∧ Na03.value f x % (m : Int) = 0))) H
theorem scIR : FnScope ["numbers", "power", "x"] ["numbers", "power", "x"] (defScope sIR) := ⟨rfl, rfl, rfl, by decide +kernel, rfl, by decide +kernel, by decide +kernel⟩
theorem ok_IR {f : Addr} {fd : FuncData} (F : Fun K "is_root" "is_root" sIR f fd) (GV : Has P w K mg base 1 "value_for" ["numbers", "x"] (spVF K)) :
    FnOk P w K mg base CX0 2 f fd ["numbers", "power", "x"] (spIR K) := by
  obtain ⟨g, gd, GV, mV, kV, bV⟩ := GV
  refine F.ok scIR (fun vs H Q E h => ?_) (fun cdv A outer s H vs Q E hr h => ?_)
  · obtain ⟨a, f, m, x, rfl, _⟩ := h
    rfl
  · obtain ⟨a, f, m, x, rfl, hS, hm, hm2, h⟩ := h
    refine ⟨_, pss_one (ps_ret (pe_and (pe_chain op_le op_lt pe_int (pv 2) (pv 1)) (pe_one (pe_cmpR op_eq (pe_op op_modN (pe_call GV hr rfl mV kV bV .nil pass0 (pa_cons (pv 0) (pa_cons (pv 2) pa_nil))) (pv 1)) pe_int (nomark _))))), ?_⟩
    refine ⟨_, rfl, _, _, rfl, rfl, _, rfl, ?_⟩
    by_cases c1 : 0 ≤ x
    · refine if_true_of (decide_eq_true c1) ?_
      refine ⟨_, rfl, _, _, rfl, rfl, _, rfl, ?_⟩
      by_cases c2 : x < (m : Int)
      · refine if_true_of (decide_eq_true c2) ?_
        refine ⟨_, rfl, _, rfl, a, f, x, rfl, hS, ⟨by omega, by omega⟩, _, rfl, _, _, rfl, rfl, (show (m : Int) ≠ 0 by omega), rfl, ?_⟩
        have em : (Na03.value f x).fmod m = Na03.value f x % m := Int.fmod_eq_emod_of_nonneg _ (by omega)
        have e : decide (0 ≤ x ∧ x < (m : Int) ∧ Na03.value f x % (m : Int) = 0) = decide (V.int ((Na03.value f x).fmod m) = V.int 0) := by
          rw [em]
          by_cases c3 : Na03.value f x % (m : Int) = 0
          · rw [decide_eq_true (show _ ∧ _ ∧ _ from ⟨c1, c2, c3⟩), c3, decide_eq_true rfl]
          · rw [decide_eq_false (fun z => c3 z.2.2), decide_eq_false (fun z => c3 (V.int.inj z))]
        rw [e] at h
        exact h
      · refine if_false_of (decide_eq_false c2) ?_
        rw [decide_eq_false (fun z => c2 z.2.1)] at h
        exact h
    · refine if_false_of (decide_eq_false c1) ?_
      refine ⟨_, rfl, if_false_of rfl ?_⟩
      rw [decide_eq_false (fun z => c1 z.1)] at h
      exact h

/-! ### roots_gone_on_to -/
abbrev sRG : Stmt := top 11
def spRG (K : PySem.W.Frag) : Sp := fun vs H Q _ => ∃ (a : Addr) (f : List Int) (p m x : Nat), vs = [.ref a, .int (p : Int), .int (m : Int), .int (x : Int)] ∧ SqL K H a (f.map V.int) ∧ 0 < p ∧ p < 1000 ∧ 0 < m ∧ m * p < 2 ^ 62 ∧ x < m ∧
  ∀ l, H l = none → Q (.ref l) (upd H l (.lst ((Na03.ints (Na03.next f p m x)).map V.int)))
theorem scRG : FnScope ["numbers", "prime", "power", "x", "above", "y"] ["numbers", "prime", "power", "x"] (defScope sRG) := ⟨rfl, rfl, rfl, by decide +kernel, rfl, by decide +kernel, by decide +kernel⟩
theorem ok_RG {f : Addr} {fd : FuncData} (F : Fun K "roots_gone_on_to" "roots_gone_on_to" sRG f fd) (O : Own mg) (GI : Has P w K mg base 2 "is_root" ["numbers", "power", "x"] (spIR K)) :
    FnOk P w K mg base CX0 3 f fd ["numbers", "prime", "power", "x"] (spRG K) := by
  obtain ⟨g, gd, GI, mI, kI, bI⟩ := GI
  refine F.ok scRG (fun vs H Q E h => ?_) (fun cdv A outer s H vs Q E hr h => ?_)
  · obtain ⟨a, f, p, m, x, rfl, _⟩ := h
    rfl
  · obtain ⟨a, f, p, m, x, rfl, hS, hp, hp2, hm, hmp2, hx, h⟩ := h
    refine ⟨_, pss_cons (ps_set (i := 4) scRG.nd rfl (Or.inr rfl) (pe_op op_mul (pv 2) (pv 1)))
      (pss_one (ps_ret (pe_lc (own := [("y", 5)]) (g := gName 5) (by rfl) scRG.nd (pi_rangeW rfl O.range (pa_cons (pv 3) (pa_cons (pv 4) (pa_cons (pv 2) pa_nil))))
        (blkOk_by (own := [("y", 5)]) (N := ["numbers", "prime", "power", "x", "above", "y"]) (sc := defScope sRG) (by decide +kernel))
        (fun _ _ _ _ _ => pg_name (i := 5) scRG.nd rfl (Or.inl rfl))
        (fun _ _ _ _ _ => pts_one (pt_val (pe_call GI hr rfl mI kI bI .nil pass0 (pa_cons (pv 0) (pa_cons (pv 4) (pa_cons (pv 5) pa_nil))))))
        (fun _ _ _ _ _ => pv 5)))), ?_⟩
    have hpm : ((m : Int) * (p : Int)) = ((m * p : Nat) : Int) := by push_cast; rfl
    have hmp1 : m * 1 ≤ m * p := Nat.mul_le_mul_left m hp
    refine ⟨_, rfl, _, rfl, _, _, rfl, rfl, .inr ⟨by omega, by omega⟩, ?_⟩
    refine ⟨_, rfl, _, rfl, _, rfl, x, ((m * p : Nat) : Int), m, p, rfl, rgW_up hp hm hx hmp2, fun D hD => ?_⟩
    refine lc_it walk_rangeC (fun i H' => H' = upd H D (.lst ((Na03.ints (((List.range i).map fun d => x + d * m).filter fun y => Na03.value f (y : Int) % ((m * p : Nat) : Int) == 0)).map V.int))) rfl (fun _ _ _ _ => trivial) ?_ ?_
    · rintro i y H' H2 hi rfl ⟨rfl, rfl⟩
      have e1 : ((x : Int) + (i : Nat) * (m : Int)) = ((x + i * m : Nat) : Int) := by push_cast; rfl
      dsimp only
      rw [e1]
      have hlt : x + i * m < m * p := by
        have h2 : (i + 1) * m ≤ p * m := Nat.mul_le_mul_right m hi
        have h3 : (i + 1) * m = i * m + m := by rw [Nat.add_mul, Nat.one_mul]
        rw [Nat.mul_comm m p]
        omega
      refine ⟨rfl, _, rfl, _, rfl, _, rfl, a, f, m * p, ((x + i * m : Nat) : Int), rfl, ?_, by omega, by omega, _, rfl, ?_⟩
      · exact (Same.new hD _).seq hS
      · have ed : decide (0 ≤ ((x + i * m : Nat) : Int) ∧ ((x + i * m : Nat) : Int) < ((m * p : Nat) : Int) ∧ Na03.value f ((x + i * m : Nat) : Int) % ((m * p : Nat) : Int) = 0) = (Na03.value f ((x + i * m : Nat) : Int) % ((m * p : Nat) : Int) == 0) := by
          by_cases c : Na03.value f ((x + i * m : Nat) : Int) % ((m * p : Nat) : Int) = 0
          · rw [c, decide_eq_true ⟨by omega, by omega, rfl⟩]
            rfl
          · rw [decide_eq_false fun z => c z.2.2, beq_false_of_ne c]
        rw [ed, List.range_succ, List.map_append, List.filter_append]
        by_cases c : (Na03.value f ((x + i * m : Nat) : Int) % ((m * p : Nat) : Int) == 0) = true
        · refine if_true_of c ?_
          refine ⟨_, rfl, _, upd_same, ?_, ?_⟩
          · rw [List.length_map]
            unfold Na03.ints
            rw [List.length_map]
            have l1 := List.length_filter_le (fun y : Nat => Na03.value f (y : Int) % ((m * p : Nat) : Int) == 0) ((List.range i).map fun d => x + d * m)
            rw [List.length_map, List.length_range] at l1
            refine Nat.lt_of_le_of_lt l1 ?_
            unfold sizeLine
            omega
          · rw [upd_upd]
            congr 2
            have e2 : List.filter (fun y : Nat => Na03.value f (y : Int) % ((m * p : Nat) : Int) == 0) (List.map (fun d => x + d * m) [i]) = [x + i * m] := by
              simp only [List.map_singleton, List.filter_cons, c, if_true, List.filter_nil]
            rw [e2]
            unfold Na03.ints
            rw [List.map_append, List.map_append]
            rfl
        · have c' := Bool.eq_false_iff.mpr c
          refine if_false_of c' ?_
          have e2 : List.filter (fun y : Nat => Na03.value f (y : Int) % ((m * p : Nat) : Int) == 0) (List.map (fun d => x + d * m) [i]) = [] := by
            simp only [List.map_singleton, List.filter_cons, c', Bool.false_eq_true, if_false, List.filter_nil]
          rw [e2, List.append_nil]
    · rintro H' rfl
      exact h D hD

theorem found_len {f : List Int} {p m : Nat} (hm : 0 < m) (hm2 : m ≤ 5000) (hp2 : p < 1000) : ((Na03.roots f m).flatMap (Na03.next f p m)).length ≤ 5000000 := by
  rw [(roots_step hm).length_eq]
  unfold Na03.roots
  refine Nat.le_trans (List.length_filter_le _ _) ?_
  rw [List.length_range]
  have := Nat.mul_le_mul hm2 (Nat.le_of_lt hp2)
  omega
theorem found_room {f : List Int} {p m i r : Nat} (hr : (Na03.roots f m)[i]? = some r) (hm : 0 < m) (hm2 : m ≤ 5000) (hp2 : p < 1000) :
    (Na03.ints (((Na03.roots f m).take i).flatMap (Na03.next f p m))).length + (Na03.ints (Na03.next f p m r)).length ≤ sizeLine := by
  unfold Na03.ints
  rw [List.length_map, List.length_map]
  have h1 := found_len (f := f) hm hm2 hp2
  have h2 : ((Na03.roots f m).take (i + 1)).flatMap (Na03.next f p m) ++ ((Na03.roots f m).drop (i + 1)).flatMap (Na03.next f p m) = (Na03.roots f m).flatMap (Na03.next f p m) := by
    rw [← List.flatMap_append, List.take_append_drop]
  have h3 := congrArg List.length h2
  rw [take_more hr, List.flatMap_append, List.length_append, List.length_append] at h3
  have h4 : ([r].flatMap (Na03.next f p m)).length = (Na03.next f p m r).length := by simp
  rw [h4] at h3
  have h5 : sizeLine = 16777216 := rfl
  omega
/-! ### roots_of_next_power -/
abbrev sRN : Stmt := top 12
def spRN (K : PySem.W.Frag) : Sp := fun vs H Q _ => ∃ (a b : Addr) (f : List Int) (p m : Nat), vs = [.ref a, .int (p : Int), .int (m : Int), .ref b] ∧ SqL K H a (f.map V.int) ∧ SqL K H b ((Na03.ints (Na03.roots f m)).map V.int) ∧ 0 < p ∧ p < 1000 ∧ 0 < m ∧ m ≤ 5000 ∧
  ∀ l H', Same H H' → H l = none → H' l = some (.lst ((Na03.ints (Na03.roots f (m * p))).map V.int)) → Q (.ref l) H'
theorem scRN : FnScope ["numbers", "prime", "power", "roots", "found", "root"] ["numbers", "prime", "power", "roots"] (defScope sRN) := ⟨rfl, rfl, rfl, by decide +kernel, rfl, by decide +kernel, by decide +kernel⟩
theorem ok_RN {f : Addr} {fd : FuncData} (F : Fun K "roots_of_next_power" "roots_of_next_power" sRN f fd) (O : Own mg) (GG : Has P w K mg base 3 "roots_gone_on_to" ["numbers", "prime", "power", "x"] (spRG K)) :
    FnOk P w K mg base CX0 4 f fd ["numbers", "prime", "power", "roots"] (spRN K) := by
  obtain ⟨g, gd, GG, mG, kG, bG⟩ := GG
  refine F.ok scRN (fun vs H Q E h => ?_) (fun cdv A outer s H vs Q E hr h => ?_)
  · obtain ⟨a, b, f, p, m, rfl, _⟩ := h
    rfl
  · obtain ⟨a, b, f, p, m, rfl, hS, hB, hp, hp2, hm, hm2, h⟩ := h
    refine ⟨_, pss_cons (ps_set (i := 4) scRN.nd rfl (Or.inl rfl) (pe_lst pa_nil))
      (pss_cons (ps_for PassesOwn.never rfl (pi_list (pv 3)) (pg_name (i := 5) scRN.nd rfl (Or.inl rfl))
        (pss_one (ps_expr (pe_bm PySem.F.plainAttrs_list PySem.F.slot_list_extend PySem.F.type_list_extend mt_extend (pv 4) (pa_cons (pe_call GG hr rfl mG kG bG .nil pass0 (pa_cons (pv 0) (pa_cons (pv 1) (pa_cons (pv 2) (pa_cons (pv 5) pa_nil))))) pa_nil)))))
      (pss_one (ps_ret (pe_callB cr_sortedI (by rfl) O.sorted (by decide +kernel) (pa_cons (pv 4) pa_nil))))), ?_⟩
    refine ⟨Nat.zero_le _, fun l hl => ?_⟩
    have s0 : ∀ o, Same H (upd H l o) := Same.new hl
    refine ⟨_, rfl, b, rfl, ⟨_, (s0 _).seq hB⟩, for_list (K := K) (a := b) (xs := (Na03.ints (Na03.roots f m)).map V.int)
      (fun i σ H' => ∃ v : Option V, σ = [some (.ref a), some (.int p), some (.int m), some (.ref b), some (.ref l), v] ∧ Same H H' ∧ H' l = some (.lst ((Na03.ints (((Na03.roots f m).take i).flatMap (Na03.next f p m))).map V.int)))
      ⟨none, rfl, s0 _, upd_same⟩ (fun i σ H' _ ⟨_, _, s1, _⟩ => s1.seq hB) ?_ ?_⟩
    · rintro i y σ H' hi ⟨v, rfl, s1, hl1⟩
      rw [List.getElem?_map] at hi
      obtain ⟨z, hz, rfl⟩ := Option.map_eq_some_iff.mp hi
      unfold Na03.ints at hz
      rw [List.getElem?_map] at hz
      obtain ⟨r, hr1, rfl⟩ := Option.map_eq_some_iff.mp hz
      have hrm : r < m := (mem_roots.mp (List.mem_of_getElem? hr1)).1
      refine ⟨_, rfl, .inl ⟨rfl, _, SqL.of hl1⟩, _, rfl, _, rfl, _, rfl, _, rfl, a, f, p, m, r, rfl, s1.seq hS, hp, hp2, hm, by have := Nat.mul_le_mul hm2 (Nat.le_of_lt hp2); omega, hrm, fun q hq => ?_⟩
      have ne : l ≠ q := by
        intro e
        subst e
        rw [hl1] at hq
        cases hq
      refine ⟨l, q, _, _, rfl, rfl, (upd_ne ne).trans hl1, upd_same, ?_, ?_⟩
      · rw [List.length_map, List.length_map]
        exact found_room hr1 hm hm2 hp2
      · refine ⟨some (.int r), rfl, fun c o e => ?_, ?_⟩
        · have n1 : c ≠ l := by
            intro e1
            subst e1
            rw [hl] at e
            cases e
          rw [upd_ne n1]
          exact Same.new hq _ c o (s1 c o e)
        · rw [upd_same, take_more hr1, List.flatMap_append]
          unfold Na03.ints
          rw [List.map_append, List.map_append]
          simp
    · rintro σ H' ⟨v, rfl, s1, hl1⟩
      rw [List.length_map] at hl1
      have el : (Na03.ints (Na03.roots f m)).length = (Na03.roots f m).length := List.length_map _
      rw [el, List.take_length] at hl1
      refine ⟨_, rfl, l, _, rfl, SqL.of hl1, fun ns' q hperm hsort hq => ?_⟩
      refine h q _ (fun c o e => Same.new hq _ c o (s1 c o e)) (s1.free hq) ?_
      rw [upd_same, sorted_found hm hperm hsort]

/-! ### roots_of_powers -/
abbrev sRP : Stmt := top 13
def spRP (K : PySem.W.Frag) : Sp := fun vs H Q _ => ∃ (a : Addr) (f : List Int) (p k : Nat), vs = [.ref a, .int (p : Int), .int (k : Int)] ∧ SqL K H a (f.map V.int) ∧ 0 < p ∧ p < 1000 ∧ k < 1000 ∧ p ^ k ≤ 5000 ∧
  ∀ l H' (cs : List Addr), Same H H' → H l = none → H' l = some (.lst (cs.map V.ref)) → cs.length = k → (∀ i c, cs[i]? = some c → H' c = some (.lst ((Na03.ints (Na03.roots f (p ^ (i + 1)))).map V.int))) → Q (.ref l) H'
theorem scRP : FnScope ["numbers", "prime", "k", "roots", "power", "lists", "step"] ["numbers", "prime", "k"] (defScope sRP) := ⟨rfl, rfl, rfl, by decide +kernel, rfl, by decide +kernel, by decide +kernel⟩
theorem ok_RP {f : Addr} {fd : FuncData} (F : Fun K "roots_of_powers" "roots_of_powers" sRP f fd) (O : Own mg) (GG : Has P w K mg base 4 "roots_of_next_power" ["numbers", "prime", "power", "roots"] (spRN K)) :
    FnOk P w K mg base CX0 5 f fd ["numbers", "prime", "k"] (spRP K) := by
  obtain ⟨g, gd, GG, mG, kG, bG⟩ := GG
  refine F.ok scRP (fun vs H Q E h => ?_) (fun cdv A outer s H vs Q E hr h => ?_)
  · obtain ⟨a, f, p, k, rfl, _⟩ := h
    rfl
  · obtain ⟨a, f, p, k, rfl, hS, hp, hp2, hk, hpk, h⟩ := h
    refine ⟨_, pss_cons (ps_set (i := 3) scRP.nd rfl (Or.inl rfl) (pe_lst (pa_cons pe_int pa_nil))) (pss_cons (ps_set (i := 4) scRP.nd rfl (Or.inl rfl) pe_int) (pss_cons (ps_set (i := 5) scRP.nd rfl (Or.inl rfl) (pe_lst pa_nil))
      (pss_cons (ps_for PassesOwn.never rfl (pi_range1 rfl O.range (pa_cons (pv 2) pa_nil)) (pg_name (i := 6) scRP.nd rfl (Or.inl rfl))
        (pss_cons (ps_set (i := 3) scRP.nd rfl (Or.inl rfl) (pe_call GG hr rfl mG kG bG .nil pass0 (pa_cons (pv 0) (pa_cons (pv 1) (pa_cons (pv 4) (pa_cons (pv 3) pa_nil))))))
        (pss_cons (ps_set (i := 4) scRP.nd rfl (Or.inl rfl) (pe_op op_mul (pv 4) (pv 1)))
        (pss_one (ps_expr (pe_bm PySem.F.plainAttrs_list PySem.F.slot_list_append PySem.F.type_list_append mt_append (pv 5) (pa_cons (pv 3) pa_nil)))))))
      (pss_one (ps_ret (pv 5)))))), ?_⟩
    refine ⟨(by show 1 ≤ sizeLine; decide), fun r hr0 => ?_⟩
    refine ⟨Nat.zero_le _, fun l hl => ?_⟩
    have s0 : Same H (upd H r (.lst [.int 0])) := Same.new hr0 _
    have nrl : r ≠ l := by
      intro e
      subst e
      rw [upd_same] at hl
      cases hl
    have hlH : H l = none := s0.free hl
    refine ⟨_, rfl, k, rfl, by omega, by omega, for_range (n := k) (fun i σ H' => ∃ (v : Option V) (q : Addr) (cs : List Addr), σ = [some (.ref a), some (.int p), some (.int k), some (.ref q), some (.int ((p ^ i : Nat) : Int)), some (.ref l), v] ∧ Same H H' ∧
        H' l = some (.lst (cs.map V.ref)) ∧ cs.length = i ∧ q ≠ l ∧ (∀ c ∈ cs, c ≠ l) ∧ H' q = some (.lst ((Na03.ints (Na03.roots f (p ^ i))).map V.int)) ∧ (∀ i c, cs[i]? = some c → H' c = some (.lst ((Na03.ints (Na03.roots f (p ^ (i + 1)))).map V.int))))
      ⟨none, r, [], rfl, s0.trans (Same.new hl _), upd_same, rfl, nrl, (fun c hc => by cases hc), ?_, (fun i c e => by simp at e)⟩ ?_ ?_⟩
    · rw [upd_ne nrl, upd_same, Nat.pow_zero, roots_one]
      rfl
    · rintro i σ H' hi ⟨v, q, cs, rfl, s1, hl1, hlen, nq, ncs, hq1, hcs⟩
      have hpi : p ^ i ≤ 5000 := Nat.le_trans (Nat.pow_le_pow_right hp (Nat.le_of_lt hi)) hpk
      refine ⟨_, rfl, _, rfl, _, rfl, _, rfl, a, q, f, p, p ^ i, rfl, s1.seq hS, SqL.of hq1, hp, hp2, Nat.pow_pos hp, hpi, fun q' H2 s2 hq' hq2 => ?_⟩
      refine ⟨_, rfl, _, rfl, _, _, rfl, rfl, .inr ⟨by omega, by omega⟩, _, rfl, .inl ⟨rfl, _, SqL.of (s2 _ _ hl1)⟩, _, rfl, l, _, _, rfl, rfl, s2 _ _ hl1, ?_, ?_⟩
      · rw [List.length_map, hlen]
        have h5 : sizeLine = 16777216 := rfl
        omega
      · have nq' : q' ≠ l := by
          intro e
          subst e
          rw [hl1] at hq'
          cases hq'
        refine ⟨some (.int (0 + i)), q', cs ++ [q'], ?_, fun c o e => ?_, ?_, ?_, nq', ?_, ?_, ?_⟩
        · rw [Nat.pow_succ]
          rfl
        · have n1 : c ≠ l := by
            intro e1
            subst e1
            rw [hlH] at e
            cases e
          rw [upd_ne n1]
          exact s2 c o (s1 c o e)
        · rw [upd_same, List.map_append]
          rfl
        · rw [List.length_append, hlen]
          rfl
        · intro c hc
          rcases List.mem_append.mp hc with hc | hc
          · exact ncs c hc
          · rw [List.mem_singleton.mp hc]
            exact nq'
        · rw [upd_ne nq', hq2, Nat.pow_succ]
        · intro j c hj
          rcases Nat.lt_or_ge j cs.length with hjl | hjl
          · rw [List.getElem?_append_left hjl] at hj
            rw [upd_ne (ncs c (List.mem_of_getElem? hj))]
            exact s2 _ _ (hcs j c hj)
          · rw [List.getElem?_append_right hjl] at hj
            cases e0 : j - cs.length with
            | zero =>
              rw [e0] at hj
              have e1 : q' = c := Option.some.inj hj
              subst e1
              have e2 : j = i := by omega
              subst e2
              rw [upd_ne nq', hq2, Nat.pow_succ]
            | succ n =>
              rw [e0] at hj
              simp at hj
    · rintro σ H' ⟨v, q, cs, rfl, s1, hl1, hlen, nq, ncs, hq1, hcs⟩
      exact ⟨_, rfl, h l H' cs s1 hlH hl1 hlen hcs⟩
end
end LR
set_option Elab.async false
set_option maxRecDepth 100000
set_option maxHeartbeats 2000000
set_option linter.unusedVariables false
namespace LR
open PySem PySem.Spec PyProof.Rows L2
section
variable {P : Program} {w : World} {K : PySem.W.Frag} {mg : Str → Option Value} {base : Heap}
theorem Same.ne {H H' : Hp} {p q : Addr} {o : HO} (h : H p = some o) (hq : H q = none) : p ≠ q := by
  intro e
  subst e
  rw [h] at hq
  cases hq
/-- one object of its own changes -/
theorem Same.own {H H' : Hp} {p : Addr} {o : HO} (s : Same H H') (hp : H p = none) : Same H (upd H' p o) := fun b u e => by
  have n : b ≠ p := Same.ne (H' := H') e hp
  rw [upd_ne n]
  exact s b u e
/-! ### product -/
abbrev sPr : Stmt := top 4
def spPr (K : PySem.W.Frag) : Sp := fun vs H Q _ => ∃ (a b : Addr) (f g : List Int), vs = [.ref a, .ref b] ∧ SqL K H a (f.map V.int) ∧ SqL K H b (g.map V.int) ∧ f.length ≤ 1000 ∧ g.length ≤ 1000 ∧ (∀ c ∈ g, -(2 ^ 64) < c ∧ c < 2 ^ 64) ∧ Gives (prodL f g) H Q
theorem scPr : FnScope ["one", "other", "numbers", "i", "left", "j", "right"] ["one", "other"] (defScope sPr) := ⟨rfl, rfl, rfl, by decide +kernel, rfl, by decide +kernel, by decide +kernel⟩
theorem replicate_zero (n : Nat) : (List.replicate n [V.int 0]).flatten = ((List.range n).map fun _ => (0 : Int)).map V.int := by
  induction n with
  | zero => rfl
  | succ n ih =>
    rw [List.replicate_succ', List.flatten_append, ih, List.range_succ, List.map_append, List.map_append]
    rfl
theorem range_alike {g h : Nat → Int} (N : Nat) (e : ∀ n, g n = h n) : (List.range N).map g = (List.range N).map h := List.map_congr_left fun n _ => e n
theorem ixN_nat {n j : Nat} (h : j < n) : ixN n (j : Int) = some j := by
  unfold ixN
  rw [if_pos (by omega), if_pos (by omega), Int.toNat_natCast]
theorem ok_Pr {f : Addr} {fd : FuncData} (F : Fun K "product" "product" sPr f fd) (O : Own mg) : FnOk P w K mg base CX0 1 f fd ["one", "other"] (spPr K) := by
  refine F.ok scPr (fun vs H Q E h => ?_) (fun cdv A outer s H vs Q E hr h => ?_)
  · obtain ⟨a, b, f, g, rfl, _⟩ := h
    rfl
  · obtain ⟨a, b, f, g, rfl, hA, hB, lf, lg, hg, h⟩ := h
    refine ⟨_, pss_cons (ps_if (PW.pt (pw_or (pt_cmpR op_eq (pe_callB call_len_seq (by rfl) O.len PySem.boot_len (pa_cons (pv 0) pa_nil)) pe_int (nomark _))
          (pw_or1 (pt_cmpR op_eq (pe_callB call_len_seq (by rfl) O.len PySem.boot_len (pa_cons (pv 1) pa_nil)) pe_int (nomark _))))) (pss_one (ps_ret (pe_lst pa_nil))) pss_nil)
      (pss_cons (ps_set (i := 2) scPr.nd rfl (Or.inl rfl) (pe_op op_rep (pe_lst (pa_cons pe_int pa_nil)) (pe_op op_sub (pe_op op_add (pe_callB call_len_seq (by rfl) O.len PySem.boot_len (pa_cons (pv 0) pa_nil)) (pe_callB call_len_seq (by rfl) O.len PySem.boot_len (pa_cons (pv 1) pa_nil))) pe_int)))
      (pss_cons (ps_for PassesOwn.never rfl (pi_enum (by rfl) O.enumerate (pa_cons (pv 0) pa_nil)) (pg_tup rfl (pgs_cons (pg_name (i := 3) scPr.nd rfl (Or.inl rfl)) (pgs_cons (pg_name (i := 4) scPr.nd rfl (Or.inl rfl)) pgs_nil)))
        (pss_one (ps_for PassesOwn.never rfl (pi_enum (by rfl) O.enumerate (pa_cons (pv 1) pa_nil)) (pg_tup rfl (pgs_cons (pg_name (i := 5) scPr.nd rfl (Or.inl rfl)) (pgs_cons (pg_name (i := 6) scPr.nd rfl (Or.inl rfl)) pgs_nil)))
          (pss_one (ps_asg (pe_op op_add (pe_ix ix_list (pv 2) (pe_op op_add (pv 3) (pv 5)) (fun _ _ => rfl)) (pe_op op_mul (pv 4) (pv 6))) (pg_sub (pv 2) (pe_op op_add (pv 3) (pv 5)) set_list))))))
      (pss_one (ps_ret (pv 2))))), ?_⟩
    refine ⟨_, rfl, a, _, rfl, .inl hA, rfl, _, rfl, ?_⟩
    rw [List.length_map]
    by_cases c1 : f = []
    · refine if_true_of (decide_eq_true (by rw [c1]; rfl)) ?_
      refine if_true_of rfl ⟨Nat.zero_le _, fun q hq => h q _ (Same.new hq _) hq ?_⟩
      rw [upd_same]
      unfold prodL
      rw [if_pos (.inl c1)]
      rfl
    · have l1 : 0 < f.length := List.length_pos_iff.mpr c1
      refine if_false_of (decide_eq_false fun z => by have := V.int.inj z; omega) ?_
      refine ⟨_, rfl, b, _, rfl, .inl hB, rfl, _, rfl, ?_⟩
      rw [List.length_map]
      by_cases c2 : g = []
      · refine if_true_of (decide_eq_true (by rw [c2]; rfl)) ?_
        refine ⟨Nat.zero_le _, fun q hq => h q _ (Same.new hq _) hq ?_⟩
        rw [upd_same]
        unfold prodL
        rw [if_pos (.inr c2)]
        rfl
      · have l2 : 0 < g.length := List.length_pos_iff.mpr c2
        refine if_false_of (decide_eq_false fun z => by have := V.int.inj z; omega) ?_
        refine ⟨(by show 1 ≤ sizeLine; decide), fun u hu => ?_⟩
        have su := Same.new hu (.lst [.int 0])
        refine ⟨_, rfl, a, _, rfl, .inl (su.seq hA), _, rfl, b, _, rfl, .inl (su.seq hB), _, _, rfl, rfl, _, _, rfl, rfl, u, _, _, rfl, rfl, upd_same, ?_, ?_, ?_, fun p hp => ?_⟩
        · simp only [List.length_map]; omega
        · simp only [List.length_map]; omega
        · simp only [List.length_map, List.length_singleton]
          have h5 : sizeLine = 16777216 := rfl
          omega
        have hpH : H p = none := su.free hp
        have eN : (((f.map V.int).length : Int) + ((g.map V.int).length : Int) - 1).toNat = f.length + g.length - 1 := by
          rw [List.length_map, List.length_map]
          omega
        rw [eN, replicate_zero]
        generalize hN : f.length + g.length - 1 = N
        refine ⟨_, rfl, a, _, rfl, ((su.trans (Same.new hp _)).seq hA), for_it (walk_enum (xs := f.map V.int))
          (fun i σ H' => ∃ v3 v4 v5 v6 : Option V, σ = [some (.ref a), some (.ref b), some (.ref p), v3, v4, v5, v6] ∧ Same H H' ∧ H' p = some (.lst (((List.range N).map (part f g i)).map V.int)))
          ⟨none, none, none, none, rfl, su.trans (Same.new hp _), upd_same⟩ (fun i σ H' _ ⟨_, _, _, _, _, s1, _⟩ => s1.seq hA) ?_ ?_⟩
        · rintro i x σ H1 H2 hi ⟨v3, v4, v5, v6, rfl, s1, hp1⟩ ⟨T, x1, y1, rfl, hT, rfl, ex, ey⟩
          obtain rfl := Option.some.inj ex
          change (f.map V.int)[i]? = some y1 at ey
          rw [List.getElem?_map] at ey
          obtain ⟨fi, hfi, rfl⟩ := Option.map_eq_some_iff.mp ey
          have hci : co f i = fi := by
            unfold co
            rw [List.getD_eq_getElem?_getD, hfi]
            rfl
          have hil : i < f.length := (List.getElem?_eq_some_iff.mp hfi).1
          have s2 := s1.trans (Same.new hT (.tup [.int (i : Nat), .int fi]))
          have hp2 : (upd H1 T (.tup [.int (i : Nat), .int fi])) p = some (.lst (((List.range N).map (part f g i)).map V.int)) := Same.new hT _ _ _ hp1
          refine ⟨T, _, rfl, SqT.of upd_same, rfl, _, _, rfl, _, _, rfl, rfl, ?_⟩
          refine ⟨_, rfl, b, _, rfl, s2.seq hB, for_it (walk_enum (xs := g.map V.int))
            (fun j σ H' => ∃ v5 v6 : Option V, σ = [some (.ref a), some (.ref b), some (.ref p), some (.int (i : Nat)), some (.int fi), v5, v6] ∧ Same H H' ∧ H' p = some (.lst (((List.range N).map (part2 f g i j)).map V.int)))
            ⟨_, _, rfl, s2, ?_⟩ (fun i σ H' _ ⟨_, _, _, s1, _⟩ => s1.seq hB) ?_ ?_⟩
          · rw [hp2, range_alike N (part2_zero f g i)]
          · rintro j x σ H3 H4 hj ⟨w5, w6, rfl, s3, hp3⟩ ⟨T2, x2, y2, rfl, hT2, rfl, ex2, ey2⟩
            obtain rfl := Option.some.inj ex2
            change (g.map V.int)[j]? = some y2 at ey2
            rw [List.getElem?_map] at ey2
            obtain ⟨gj, hgj, rfl⟩ := Option.map_eq_some_iff.mp ey2
            have hcj : co g j = gj := by
              unfold co
              rw [List.getD_eq_getElem?_getD, hgj]
              rfl
            have hjl : j < g.length := (List.getElem?_eq_some_iff.mp hgj).1
            have s4 := s3.trans (Same.new hT2 (.tup [.int (j : Nat), .int gj]))
            have hp4 : (upd H3 T2 (.tup [.int (j : Nat), .int gj])) p = some (.lst (((List.range N).map (part2 f g i j)).map V.int)) := Same.new hT2 _ _ _ hp3
            have eij : ((i : Nat) : Int) + ((j : Nat) : Int) = ((i + j : Nat) : Int) := by push_cast; rfl
            have hat : (((List.range N).map (part2 f g i j)).map V.int)[i + j]? = some (.int (part2 f g i j (i + j))) := by
              rw [List.getElem?_map, List.getElem?_map, List.getElem?_range (by omega)]
              rfl
            refine ⟨T2, _, rfl, SqT.of upd_same, rfl, _, _, rfl, _, _, rfl, rfl, ?_⟩
            refine ⟨_, rfl, _, rfl, _, rfl, _, _, rfl, rfl, p, _, _, .int (part2 f g i j (i + j)), rfl, rfl, SqL.of hp4, ?_, _, rfl, _, rfl, _, _, rfl, rfl, .inr (hg gj (List.mem_of_getElem? hgj)), _, _, rfl, rfl,
              _, rfl, _, rfl, _, rfl, _, _, rfl, rfl, p, _, _, i + j, rfl, rfl, hp4, ?_, _, _, rfl, Same.own s4 hpH, ?_⟩
            · rw [eij]
              exact atI_nat hat
            · rw [eij, List.length_map, List.length_map, List.length_range]
              exact ixN_nat (by omega)
            · rw [upd_same, ← hci, ← hcj]
              congr 2
              have e5 := congrArg (List.map V.int) (part_set f g i j N)
              rw [List.map_set] at e5
              exact e5
          · rintro σ H3 ⟨w5, w6, rfl, s3, hp3⟩
            rw [List.length_map] at hp3
            refine ⟨_, _, _, _, rfl, s3, ?_⟩
            rw [hp3, range_alike N (part2_end f g i)]
        · rintro σ H1 ⟨v3, v4, v5, v6, rfl, s1, hp1⟩
          refine ⟨_, rfl, h p H1 s1 hpH ?_⟩
          rw [hp1, List.length_map]
          unfold prodL
          rw [if_neg (by rintro (z | z) <;> contradiction), hN, range_alike N (part_end f g)]
end
end LR
set_option Elab.async false
set_option maxRecDepth 100000
set_option maxHeartbeats 2000000
set_option linter.unusedVariables false
namespace LR
open PySem PySem.Spec PyProof.Rows L2
section
variable {P : Program} {w : World} {K : PySem.W.Frag} {mg : Str → Option Value} {base : Heap}
/-! ### plus_number -/
abbrev sPN : Stmt := top 6
def spPN (K : PySem.W.Frag) : Sp := fun vs H Q _ => ∃ (a : Addr) (l : List Int) (n : Int), vs = [.ref a, .int n] ∧ SqL K H a (l.map V.int) ∧ l.length ≤ 10000 ∧ Gives (plusL l n) H Q
theorem scPN : FnScope ["numbers", "number"] ["numbers", "number"] (defScope sPN) := ⟨rfl, rfl, rfl, by decide +kernel, rfl, by decide +kernel, by decide +kernel⟩
theorem cut_tail (x : V) (xs : List V) : cutV (x :: xs) (some 1) none = xs := by
  have e : cutV (x :: xs) (some ((1 : Nat) : Int)) none = xs := by
    unfold cutV
    rw [HT.sIx_nat, Nat.min_eq_left (by simp)]
    show (xs.take ((x :: xs).length - 1)) = xs
    rw [List.length_cons, Nat.add_sub_cancel, List.take_length]
  exact e
theorem ok_PN {f : Addr} {fd : FuncData} (F : Fun K "plus_number" "plus_number" sPN f fd) (O : Own mg) : FnOk P w K mg base CX0 1 f fd ["numbers", "number"] (spPN K) := by
  refine F.ok scPN (fun vs H Q E h => ?_) (fun cdv A outer s H vs Q E hr h => ?_)
  · obtain ⟨a, l, n, rfl, _⟩ := h
    rfl
  · obtain ⟨a, l, n, rfl, hA, hl, h⟩ := h
    refine ⟨_, pss_cons (ps_if (pt_cmpR op_eq (pe_callB call_len_seq (by rfl) O.len PySem.boot_len (pa_cons (pv 0) pa_nil)) pe_int (nomark _)) (pss_one (ps_ret (pe_lst (pa_cons (pv 1) pa_nil)))) pss_nil)
      (pss_one (ps_ret (pe_op op_cat (pe_lst (pa_cons (pe_op op_add (pe_ix ix_list (pv 0) pe_int (fun _ _ => rfl)) (pv 1)) pa_nil)) (pe_slice sl_list (pv 0) (po_some pe_int) po_none)))), ?_⟩
    refine ⟨_, rfl, a, _, rfl, .inl hA, rfl, _, rfl, ?_⟩
    rw [List.length_map]
    cases l with
    | nil =>
      refine if_true_of (decide_eq_true rfl) ?_
      exact ⟨_, rfl, (by show 1 ≤ sizeLine; decide), fun q hq => h q _ (Same.new hq _) hq upd_same⟩
    | cons c r =>
      refine if_false_of (decide_eq_false fun z => by have := V.int.inj z; simp at this; omega) ?_
      refine ⟨_, rfl, a, _, _, .int c, rfl, rfl, hA, (atI_nat (j := 0) rfl), _, rfl, _, _, rfl, rfl, (by show 1 ≤ sizeLine; decide), fun u hu => ?_⟩
      have su := Same.new hu (.lst [.int (c + n)])
      refine ⟨_, rfl, _, rfl, a, _, rfl, su.seq hA, fun t ht => ?_⟩
      have st := Same.new ht (.lst (cutV ((c :: r).map V.int) (some 1) none))
      refine ⟨u, t, _, _, rfl, rfl, st _ _ upd_same, upd_same, ?_, fun q hq => ?_⟩
      · rw [List.map_cons, cut_tail]
        have h5 : sizeLine = 16777216 := rfl
        rw [List.length_cons] at hl
        simp only [List.length_map, List.length_singleton]
        omega
      · refine h q _ (su.trans (st.trans (Same.new hq _))) (su.free (st.free hq)) ?_
        rw [upd_same, List.map_cons, cut_tail]
        rfl
/-! ### moved -/
abbrev sMv : Stmt := top 5
def spMv (K : PySem.W.Frag) : Sp := fun vs H Q _ => ∃ (a : Addr) (f : List Int) (z : Int), vs = [.ref a, .int z] ∧ SqL K H a (f.map V.int) ∧ f.length ≤ 900 ∧ Tight f ∧ (-(2 ^ 64) < z ∧ z < 2 ^ 64) ∧ Gives (Na03.moved f z) H Q
theorem scMv : FnScope ["numbers", "z", "found", "number"] ["numbers", "z"] (defScope sMv) := ⟨rfl, rfl, rfl, by decide +kernel, rfl, by decide +kernel, by decide +kernel⟩
theorem tight_drop {f : List Int} (h : Tight f) : ∀ n, Tight (f.drop n)
  | 0 => h
  | n + 1 => by
    have ih := tight_drop h n
    rw [← List.drop_drop (i := 1)]
    cases e : f.drop n with
    | nil => rfl
    | cons a r =>
      rw [e] at ih
      exact tight_tail ih
theorem drop_back {f : List Int} {i : Nat} {y : Int} (hi : i < f.length) (h : f[f.length - 1 - i]? = some y) : f.drop (f.length - (i + 1)) = y :: f.drop (f.length - i) := by
  have e : f.length - (i + 1) = f.length - 1 - i := by omega
  have e2 : f.length - i = f.length - 1 - i + 1 := by omega
  obtain ⟨hl, rfl⟩ := List.getElem?_eq_some_iff.mp h
  rw [e, e2]
  exact List.drop_eq_getElem_cons hl
theorem ok_Mv {f : Addr} {fd : FuncData} (F : Fun K "moved" "moved" sMv f fd) (O : Own mg) (G1 : Has P w K mg base 1 "product" ["one", "other"] (spPr K)) (G2 : Has P w K mg base 1 "plus_number" ["numbers", "number"] (spPN K)) :
    FnOk P w K mg base CX0 2 f fd ["numbers", "z"] (spMv K) := by
  obtain ⟨g1, gd1, G1, m1, k1, b1⟩ := G1
  obtain ⟨g2, gd2, G2, m2, k2, b2⟩ := G2
  refine F.ok scMv (fun vs H Q E h => ?_) (fun cdv A outer s H vs Q E hr h => ?_)
  · obtain ⟨a, f, z, rfl, _⟩ := h
    rfl
  · obtain ⟨a, f, z, rfl, hA, hl, ht, hz, h⟩ := h
    refine ⟨_, pss_cons (ps_set (i := 2) scMv.nd rfl (Or.inl rfl) (pe_lst pa_nil))
      (pss_cons (ps_for PassesOwn.never rfl (pi_reversed (by rfl) O.reversed (pa_cons (pv 0) pa_nil)) (pg_name (i := 3) scMv.nd rfl (Or.inl rfl))
        (pss_one (ps_set (i := 2) scMv.nd rfl (Or.inl rfl) (pe_call G2 hr rfl m2 k2 b2 .nil pass0 (pa_cons (pe_call G1 hr rfl m1 k1 b1 .nil pass0 (pa_cons (pv 2) (pa_cons (pe_lst (pa_cons (pv 1) (pa_cons pe_int pa_nil))) pa_nil))) (pa_cons (pv 3) pa_nil))))))
      (pss_one (ps_ret (pv 2)))), ?_⟩
    refine ⟨Nat.zero_le _, fun r hr0 => ?_⟩
    have s0 := Same.new hr0 (.lst [])
    refine ⟨_, rfl, a, _, rfl, s0.seq hA, for_it (walk_rev (xs := f.map V.int)) (fun i σ H' => i ≤ f.length ∧ ∃ (q : Addr) (v : Option V), σ = [some (.ref a), some (.int z), some (.ref q), v] ∧ Same H H' ∧ H q = none ∧ H' q = some (.lst ((Na03.moved (f.drop (f.length - i)) z).map V.int)))
      ⟨Nat.zero_le _, r, none, rfl, s0, hr0, ?_⟩ (fun i σ H' _ ⟨_, _, _, _, s1, _⟩ => s1.seq hA) ?_ ?_⟩
    · rw [upd_same, Nat.sub_zero, List.drop_length]
      rfl
    · rintro i x σ H1 H2 hi ⟨hil, q, v, rfl, s1, hq0, hq1⟩ ⟨rfl, hx⟩
      rw [List.length_map] at hi hx
      rw [List.getElem?_map] at hx
      obtain ⟨y, hy, rfl⟩ := Option.map_eq_some_iff.mp hx
      have hdrop := drop_back hi hy
      have hsuf : Tight (y :: f.drop (f.length - i)) := by
        rw [← hdrop]
        exact tight_drop ht _
      have hlen : (Na03.moved (f.drop (f.length - i)) z).length ≤ 900 := by
        rw [moved_len (tight_drop ht _), List.length_drop]
        omega
      refine ⟨_, rfl, _, rfl, (by show 2 ≤ sizeLine; decide), fun u hu => ?_⟩
      have su := Same.new hu (.lst [.int z, .int 1])
      refine ⟨q, u, _, [z, 1], rfl, SqL.of (su _ _ hq1), SqL.of upd_same, by omega, by simp, ?_, fun t H3 s3 ht0 ht1 => ?_⟩
      · intro c hc
        rcases List.mem_cons.mp hc with rfl | hc
        · exact hz
        · rw [List.mem_singleton.mp hc]
          exact ⟨by decide, by decide⟩
      · refine ⟨_, rfl, t, _, y, rfl, SqL.of ht1, ?_, fun e H4 s4 he0 he1 => ?_⟩
        · have := prodL_len_le (Na03.moved (f.drop (f.length - i)) z) [z, 1]
          simp only [List.length_cons, List.length_nil] at this
          omega
        · have s5 := s1.trans (su.trans s3)
          refine ⟨hi, e, some (.int y), rfl, s5.trans s4, s5.free he0, ?_⟩
          rw [he1, hdrop, moved_step hsuf z]
    · rintro σ H1 ⟨_, q, v, rfl, s1, hq0, hq1⟩
      refine ⟨_, rfl, h q H1 s1 hq0 ?_⟩
      rw [hq1, List.length_map, Nat.sub_self, List.drop_zero]
/-! ### slope_of -/
abbrev sSo : Stmt := top 7
def spSo (K : PySem.W.Frag) : Sp := fun vs H Q _ => ∃ (a : Addr) (f : List Int), vs = [.ref a] ∧ SqL K H a (f.map V.int) ∧ f.length ≤ 1000 ∧ Gives (slopeAt f f.length) H Q
theorem scSo : FnScope ["numbers", "power", "number"] ["numbers"] (defScope sSo) := ⟨rfl, rfl, rfl, by decide +kernel, rfl, by decide +kernel, by decide +kernel⟩
theorem slopeAt_len (f : List Int) (i : Nat) : (slopeAt f i).length = i - 1 := by
  unfold slopeAt
  rw [List.length_map, List.length_range]
theorem ok_So {f : Addr} {fd : FuncData} (F : Fun K "slope_of" "slope_of" sSo f fd) (O : Own mg) : FnOk P w K mg base CX0 1 f fd ["numbers"] (spSo K) := by
  refine F.ok scSo (fun vs H Q E h => ?_) (fun cdv A outer s H vs Q E hr h => ?_)
  · obtain ⟨a, f, rfl, _⟩ := h
    rfl
  · obtain ⟨a, f, rfl, hA, hl, h⟩ := h
    refine ⟨_, pss_one (ps_ret (pe_lc (own := [("power", 1), ("number", 2)]) (g := gTup K 2 (gCons (gName 1) (gCons (gName 2) gNil))) (by rfl) scSo.nd (pi_enum (by rfl) O.enumerate (pa_cons (pv 0) pa_nil))
        (blkOk_by (own := [("power", 1), ("number", 2)]) (N := ["numbers", "power", "number"]) (sc := defScope sSo) (by decide +kernel))
        (fun _ _ _ _ _ => pg_tup rfl (pgs_cons (pg_name (i := 1) scSo.nd rfl (Or.inl rfl)) (pgs_cons (pg_name (i := 2) scSo.nd rfl (Or.inl rfl)) pgs_nil)))
        (fun _ _ _ _ _ => pts_one (pt_cmpR op_gt (pv 1) pe_int (nomark _)))
        (fun _ _ _ _ _ => pe_op op_mul (pv 1) (pv 2)))), ?_⟩
    refine ⟨_, rfl, a, _, rfl, hA, fun D hD => ?_⟩
    refine lc_it (walk_enum (xs := f.map V.int)) (fun i H' => Same H H' ∧ H' D = some (.lst ((slopeAt f i).map V.int))) ⟨Same.new hD _, upd_same⟩ (fun i H' _ ⟨s1, _⟩ => s1.seq hA) ?_ ?_
    · rintro i x H1 H2 hi ⟨s1, hD1⟩ ⟨T, x1, y1, rfl, hT, rfl, ex, ey⟩
      obtain rfl := Option.some.inj ex
      change (f.map V.int)[i]? = some y1 at ey
      rw [List.getElem?_map] at ey
      obtain ⟨fi, hfi, rfl⟩ := Option.map_eq_some_iff.mp ey
      have hci : co f i = fi := by
        unfold co
        rw [List.getD_eq_getElem?_getD, hfi]
        rfl
      rw [List.length_map] at hi
      have sT := Same.new hT (.tup [.int (i : Nat), .int fi])
      refine ⟨T, _, rfl, SqT.of upd_same, rfl, _, _, rfl, _, _, rfl, rfl, rfl, _, rfl, _, _, rfl, rfl, _, rfl, ?_⟩
      by_cases c : (0 : Int) < ((i : Nat) : Int)
      · refine if_true_of (decide_eq_true c) ?_
        refine ⟨_, rfl, _, rfl, _, _, rfl, rfl, .inl ⟨by omega, by omega⟩, _, sT _ _ hD1, ?_, Same.own (s1.trans sT) hD, ?_⟩
        · rw [List.length_map, slopeAt_len]
          have h5 : sizeLine = 16777216 := rfl
          omega
        · rw [upd_same, slopeAt_succ f (by omega), List.map_append, hci]
          rfl
      · refine if_false_of (decide_eq_false c) ?_
        refine ⟨s1.trans sT, ?_⟩
        rw [sT _ _ hD1]
        have e0 : i = 0 := by omega
        subst e0
        rfl
    · rintro H1 ⟨s1, hD1⟩
      rw [List.length_map] at hD1
      exact h D H1 s1 hD hD1
end
end LR
set_option Elab.async false
set_option maxRecDepth 100000
set_option maxHeartbeats 2000000
set_option linter.unusedVariables false
namespace LR
open PySem PySem.Spec PyProof.Rows L2
section
variable {P : Program} {w : World} {K : PySem.W.Frag} {mg : Str → Option Value} {base : Heap}
/-! ### is_simple_root -/
abbrev sIS : Stmt := top 14
def spIS (K : PySem.W.Frag) : Sp := fun vs H Q _ => ∃ (a : Addr) (f : List Int) (p x : Nat), vs = [.ref a, .int (p : Int), .int (x : Int)] ∧ SqL K H a (f.map V.int) ∧ f.length ≤ 1000 ∧ 0 < p ∧ p < 1000 ∧ x < p ∧
  ∀ H', Same H H' → Q (.bl (Na03.isSimple f p x)) H'
theorem scIS : FnScope ["numbers", "prime", "x"] ["numbers", "prime", "x"] (defScope sIS) := ⟨rfl, rfl, rfl, by decide +kernel, rfl, by decide +kernel, by decide +kernel⟩
theorem ok_IS {f : Addr} {fd : FuncData} (F : Fun K "is_simple_root" "is_simple_root" sIS f fd) (G1 : Has P w K mg base 2 "is_root" ["numbers", "power", "x"] (spIR K)) (G2 : Has P w K mg base 1 "value_for" ["numbers", "x"] (spVF K))
    (G3 : Has P w K mg base 1 "slope_of" ["numbers"] (spSo K)) : FnOk P w K mg base CX0 3 f fd ["numbers", "prime", "x"] (spIS K) := by
  obtain ⟨g1, gd1, G1, m1, k1, b1⟩ := G1
  obtain ⟨g2, gd2, G2, m2, k2, b2⟩ := G2
  obtain ⟨g3, gd3, G3, m3, k3, b3⟩ := G3
  refine F.ok scIS (fun vs H Q E h => ?_) (fun cdv A outer s H vs Q E hr h => ?_)
  · obtain ⟨a, f, p, x, rfl, _⟩ := h
    rfl
  · obtain ⟨a, f, p, x, rfl, hA, hl, hp, hp2, hx, h⟩ := h
    refine ⟨_, pss_one (ps_ret (pe_and (pe_call G1 hr rfl m1 k1 b1 .nil pass0 (pa_cons (pv 0) (pa_cons (pv 1) (pa_cons (pv 2) pa_nil))))
      (pe_one (pe_cmpR op_ne (pe_op op_modN (pe_call G2 (hr.mono (by decide)) rfl m2 k2 b2 .nil pass0 (pa_cons (pe_call G3 (hr.mono (by decide)) rfl m3 k3 b3 .nil pass0 (pa_cons (pv 0) pa_nil)) (pa_cons (pv 2) pa_nil))) (pv 1)) pe_int (nomark _))))), ?_⟩
    refine ⟨_, rfl, _, rfl, _, rfl, a, f, p, x, rfl, hA, hp, by omega, _, rfl, ?_⟩
    by_cases c : Na03.value f (x : Int) % (p : Int) = 0
    · refine if_true_of (decide_eq_true ⟨by omega, by omega, c⟩) ?_
      refine ⟨_, rfl, a, f, rfl, hA, hl, fun q H1 s1 hq hq1 => ?_⟩
      refine ⟨_, rfl, q, _, x, rfl, SqL.of hq1, ⟨by omega, by omega⟩, _, rfl, _, _, rfl, rfl, (show (p : Int) ≠ 0 by omega), rfl, ?_⟩
      have em : (Na03.value (slopeAt f f.length) (x : Int)).fmod p = Na03.value (Na03.slope f) (x : Int) % p := by
        rw [slopeAt_value]
        exact Int.fmod_eq_emod_of_nonneg _ (by omega)
      have e : Na03.isSimple f p x = !decide (V.int ((Na03.value (slopeAt f f.length) (x : Int)).fmod p) = V.int 0) := by
        unfold Na03.isSimple
        rw [em, c]
        by_cases c2 : Na03.value (Na03.slope f) (x : Int) % (p : Int) = 0
        · rw [c2]
          rfl
        · rw [decide_eq_false (fun z => c2 (V.int.inj z)), bne_iff_ne.mpr c2]
          rfl
      have h' := h H1 s1
      rw [e] at h'
      exact h'
    · refine if_false_of (decide_eq_false fun z => c z.2.2) ?_
      have e : Na03.isSimple f p x = false := by
        unfold Na03.isSimple
        rw [beq_false_of_ne c]
        rfl
      have h' := h H (Same.refl H)
      rw [e] at h'
      exact h'
/-! ### simple_roots -/
abbrev sSR : Stmt := top 15
def spSR (K : PySem.W.Frag) : Sp := fun vs H Q _ => ∃ (a : Addr) (f : List Int) (p : Nat), vs = [.ref a, .int (p : Int)] ∧ SqL K H a (f.map V.int) ∧ f.length ≤ 1000 ∧ 0 < p ∧ p < 1000 ∧ Gives (Na03.ints ((List.range p).filter (Na03.isSimple f p))) H Q
theorem scSR : FnScope ["numbers", "prime", "x"] ["numbers", "prime"] (defScope sSR) := ⟨rfl, rfl, rfl, by decide +kernel, rfl, by decide +kernel, by decide +kernel⟩
theorem ok_SR {f : Addr} {fd : FuncData} (F : Fun K "simple_roots" "simple_roots" sSR f fd) (O : Own mg) (G : Has P w K mg base 3 "is_simple_root" ["numbers", "prime", "x"] (spIS K)) : FnOk P w K mg base CX0 4 f fd ["numbers", "prime"] (spSR K) := by
  obtain ⟨g, gd, G, m1, k1, b1⟩ := G
  refine F.ok scSR (fun vs H Q E h => ?_) (fun cdv A outer s H vs Q E hr h => ?_)
  · obtain ⟨a, f, p, rfl, _⟩ := h
    rfl
  · obtain ⟨a, f, p, rfl, hA, hl, hp, hp2, h⟩ := h
    refine ⟨_, pss_one (ps_ret (pe_lc (own := [("x", 2)]) (g := gName 2) (by rfl) scSR.nd (pi_range1 rfl O.range (pa_cons (pv 1) pa_nil))
        (blkOk_by (own := [("x", 2)]) (N := ["numbers", "prime", "x"]) (sc := defScope sSR) (by decide +kernel))
        (fun _ _ _ _ _ => pg_name (i := 2) scSR.nd rfl (Or.inl rfl))
        (fun _ _ _ _ _ => pts_one (pt_val (pe_call G hr rfl m1 k1 b1 .nil pass0 (pa_cons (pv 0) (pa_cons (pv 1) (pa_cons (pv 2) pa_nil))))))
        (fun _ _ _ _ _ => pv 2))), ?_⟩
    refine ⟨_, rfl, p, rfl, by omega, by omega, fun D hD => ?_⟩
    refine lc_it (walk_range (n := p)) (fun i H' => Same H H' ∧ H' D = some (.lst ((Na03.ints ((List.range i).filter (Na03.isSimple f p))).map V.int))) ⟨Same.new hD _, upd_same⟩ (fun _ _ _ _ => trivial) ?_ ?_
    · rintro i y H1 H2 hi ⟨s1, hD1⟩ ⟨rfl, rfl⟩
      have e1 : ((0 : Int) + (i : Nat)) = ((i : Nat) : Int) := by omega
      dsimp only
      rw [e1]
      refine ⟨rfl, _, rfl, _, rfl, _, rfl, a, f, p, i, rfl, s1.seq hA, hl, hp, hp2, hi, fun H3 s3 => ⟨_, rfl, ?_⟩⟩
      rw [List.range_succ, List.filter_append]
      cases c : Na03.isSimple f p i with
      | true =>
        refine if_true_of rfl ?_
        refine ⟨_, rfl, _, s3 _ _ hD1, ?_, Same.own (s1.trans s3) hD, ?_⟩
        · rw [List.length_map]
          unfold Na03.ints
          rw [List.length_map]
          have l1 := List.length_filter_le (Na03.isSimple f p) (List.range i)
          rw [List.length_range] at l1
          have h5 : sizeLine = 16777216 := rfl
          omega
        · rw [upd_same]
          have e2 : List.filter (Na03.isSimple f p) [i] = [i] := by
            simp only [List.filter_cons, c, if_true, List.filter_nil]
          rw [e2]
          unfold Na03.ints
          rw [List.map_append, List.map_append]
          rfl
      | false =>
        refine if_false_of rfl ?_
        have e2 : List.filter (Na03.isSimple f p) [i] = [] := by
          simp only [List.filter_cons, c, Bool.false_eq_true, if_false, List.filter_nil]
        rw [e2, List.append_nil]
        exact ⟨s1.trans s3, s3 _ _ hD1⟩
    · rintro H1 ⟨s1, hD1⟩
      exact h D H1 s1 hD hD1
/-! ### lifted -/
abbrev sLf : Stmt := top 16
def spLf (K : PySem.W.Frag) : Sp := fun vs H Q _ => ∃ (a : Addr) (f : List Int) (p x n : Nat), vs = [.ref a, .int (p : Int), .int (x : Int), .int (n : Int)] ∧ SqL K H a (f.map V.int) ∧ Four p ∧ x < p ∧ n ≤ 20 ∧ Na03.isSimple f p x = true ∧
  ∀ H', Same H H' → Q (.int (Na03.lift f p x n : Nat)) H'
theorem scLf : FnScope ["numbers", "prime", "x", "times", "root", "power", "step"] ["numbers", "prime", "x", "times"] (defScope sLf) := ⟨rfl, rfl, rfl, by decide +kernel, rfl, by decide +kernel, by decide +kernel⟩
theorem four_pow {p i : Nat} (hp : Four p) (hi : i ≤ 21) : p ^ i < 2 ^ 62 := by
  have h7 : p ≤ 7 := by rcases hp with rfl | rfl | rfl | rfl <;> decide
  refine Nat.lt_of_le_of_lt (Nat.le_trans (Nat.pow_le_pow_left h7 i) (Nat.pow_le_pow_right (by decide) hi)) ?_
  decide
theorem ok_Lf {f : Addr} {fd : FuncData} (F : Fun K "lifted" "lifted" sLf f fd) (O : Own mg) (G : Has P w K mg base 3 "roots_gone_on_to" ["numbers", "prime", "power", "x"] (spRG K)) : FnOk P w K mg base CX0 4 f fd ["numbers", "prime", "x", "times"] (spLf K) := by
  obtain ⟨g, gd, G, m1, k1, b1⟩ := G
  refine F.ok scLf (fun vs H Q E h => ?_) (fun cdv A outer s H vs Q E hr h => ?_)
  · obtain ⟨a, f, p, x, n, rfl, _⟩ := h
    rfl
  · obtain ⟨a, f, p, x, n, rfl, hA, hp, hx, hn, hs, h⟩ := h
    refine ⟨_, pss_cons (ps_set (i := 4) scLf.nd rfl (Or.inl rfl) (pv 2)) (pss_cons (ps_set (i := 5) scLf.nd rfl (Or.inl rfl) (pv 1))
      (pss_cons (ps_for PassesOwn.never rfl (pi_range1 rfl O.range (pa_cons (pv 3) pa_nil)) (pg_name (i := 6) scLf.nd rfl (Or.inl rfl))
        (pss_cons (ps_set (i := 4) scLf.nd rfl (Or.inl rfl) (pe_ix ix_list (pe_call G hr rfl m1 k1 b1 .nil pass0 (pa_cons (pv 0) (pa_cons (pv 1) (pa_cons (pv 5) (pa_cons (pv 4) pa_nil))))) pe_int (fun _ _ => rfl)))
        (pss_one (ps_set (i := 5) scLf.nd rfl (Or.inl rfl) (pe_op op_mul (pv 5) (pv 1))))))
      (pss_one (ps_ret (pv 4))))), ?_⟩
    have p2 := hp.two
    have p7 : p < 1000 := by rcases hp with rfl | rfl | rfl | rfl <;> decide
    refine ⟨_, rfl, _, rfl, _, rfl, n, rfl, by omega, by omega, for_range (n := n) (fun i σ H' => Same H H' ∧ ∃ v : Option V, σ = [some (.ref a), some (.int p), some (.int x), some (.int n), some (.int (Na03.lift f p x i : Nat)), some (.int ((p ^ (i + 1) : Nat) : Int)), v]) ⟨Same.refl H, none, ?_⟩ ?_ ?_⟩
    · have e : Na03.lift f p x 0 = x := Nat.mod_eq_of_lt hx
      rw [e, Nat.zero_add, Nat.pow_one]
      rfl
    · rintro i σ H1 hi ⟨s1, v, rfl⟩
      obtain ⟨q1, q2, q3, q4, q5⟩ := lift_spec hp hx hs i
      have hb : p ^ (i + 1) * p < 2 ^ 62 := by
        rw [← Nat.pow_succ]
        exact four_pow hp (by omega)
      refine ⟨_, rfl, _, rfl, _, rfl, _, rfl, a, f, p, p ^ (i + 1), Na03.lift f p x i, rfl, s1.seq hA, by omega, p7, Nat.pow_pos (by omega), hb, q1, fun l hl => ?_⟩
      have sl := Same.new hl (.lst ((Na03.ints (Na03.next f p (p ^ (i + 1)) (Na03.lift f p x i))).map V.int))
      refine ⟨l, _, _, .int (Na03.lift f p x (i + 1) : Nat), rfl, rfl, SqL.of upd_same, ?_, _, rfl, _, rfl, _, _, rfl, rfl, .inr ⟨by omega, by omega⟩, s1.trans sl, some (.int (0 + i)), ?_⟩
      · rw [q5]
        exact atI_nat (j := 0) rfl
      · rw [Nat.pow_succ p (i + 1)]
        rfl
    · rintro σ H1 ⟨s1, v, rfl⟩
      exact ⟨_, rfl, h H1 s1⟩
/-! ### digits_of -/
abbrev sDg : Stmt := top 17
def spDg (K : PySem.W.Frag) : Sp := fun vs H Q _ => ∃ (x p n : Nat), vs = [.int (x : Int), .int (p : Int), .int (n : Int)] ∧ 0 < p ∧ p < 1000 ∧ n < 1000 ∧ Gives (Na03.ints (Na03.digits p n x)) H Q
theorem scDg : FnScope ["number", "prime", "many", "rest", "digits", "step"] ["number", "prime", "many"] (defScope sDg) := ⟨rfl, rfl, rfl, by decide +kernel, rfl, by decide +kernel, by decide +kernel⟩
theorem ok_Dg {f : Addr} {fd : FuncData} (F : Fun K "digits_of" "digits_of" sDg f fd) (O : Own mg) : FnOk P w K mg base CX0 1 f fd ["number", "prime", "many"] (spDg K) := by
  refine F.ok scDg (fun vs H Q E h => ?_) (fun cdv A outer s H vs Q E hr h => ?_)
  · obtain ⟨x, p, n, rfl, _⟩ := h
    rfl
  · obtain ⟨x, p, n, rfl, hp, hp2, hn, h⟩ := h
    refine ⟨_, pss_cons (ps_set (i := 3) scDg.nd rfl (Or.inl rfl) (pv 0)) (pss_cons (ps_set (i := 4) scDg.nd rfl (Or.inl rfl) (pe_lst pa_nil))
      (pss_cons (ps_for PassesOwn.never rfl (pi_range1 rfl O.range (pa_cons (pv 2) pa_nil)) (pg_name (i := 5) scDg.nd rfl (Or.inl rfl))
        (pss_cons (ps_expr (pe_bm PySem.F.plainAttrs_list PySem.F.slot_list_append PySem.F.type_list_append mt_append (pv 4) (pa_cons (pe_op op_modN (pv 3) (pv 1)) pa_nil)))
        (pss_one (ps_set (i := 3) scDg.nd rfl (Or.inl rfl) (pe_op op_fdivN (pv 3) (pv 1))))))
      (pss_one (ps_ret (pv 4))))), ?_⟩
    have p0 : (p : Int) ≠ 0 := by omega
    refine ⟨_, rfl, Nat.zero_le _, fun l hl => ?_⟩
    refine ⟨_, rfl, n, rfl, by omega, by omega, for_range (n := n) (fun i σ H' => ∃ v : Option V, σ = [some (.int x), some (.int p), some (.int n), some (.int ((x / p ^ i : Nat) : Int)), some (.ref l), v] ∧ H' = upd H l (.lst ((Na03.ints (Na03.digits p i x)).map V.int))) ⟨none, ?_, rfl⟩ ?_ ?_⟩
    · rw [Nat.pow_zero, Nat.div_one]
      rfl
    · rintro i σ H1 hi ⟨v, rfl, rfl⟩
      refine ⟨_, rfl, .inl ⟨rfl, _, SqL.of upd_same⟩, _, rfl, _, rfl, _, _, rfl, rfl, p0, l, _, _, rfl, rfl, upd_same, ?_, ?_⟩
      · rw [List.length_map]
        unfold Na03.ints
        rw [List.length_map, digits_len]
        have h5 : sizeLine = 16777216 := rfl
        omega
      · refine ⟨_, rfl, _, rfl, _, _, rfl, rfl, ⟨p0, by omega⟩, some (.int (0 + i)), ?_, ?_⟩
        · have e1 : (((x / p ^ i : Nat) : Int)).fdiv (p : Int) = ((x / p ^ (i + 1) : Nat) : Int) := by
            rw [Int.fdiv_eq_ediv_of_nonneg _ (by omega), Nat.pow_succ, ← Nat.div_div_eq_div_mul]
            push_cast
            rfl
          rw [← e1]
          rfl
        · rw [upd_upd, digits_snoc]
          unfold Na03.ints
          rw [List.map_append, List.map_append]
          have e2 : (((x / p ^ i : Nat) : Int)).fmod (p : Int) = ((x / p ^ i % p : Nat) : Int) := by
            rw [Int.fmod_eq_emod_of_nonneg _ (by omega)]
            push_cast
            rfl
          show upd H l (.lst (_ ++ [V.int ((((x / p ^ i : Nat) : Int)).fmod (p : Int))])) = _
          rw [e2]
          rfl
    · rintro σ H1 ⟨v, rfl, rfl⟩
      exact ⟨_, rfl, h l _ (Same.new hl _) hl upd_same⟩
end
end LR
set_option Elab.async false
set_option maxRecDepth 100000
set_option maxHeartbeats 2000000
set_option linter.unusedVariables false
namespace LR
open PySem PySem.Spec PyProof.Rows L2
/-- tuples of numbers, by their places -/
structure Tups (H : Hp) (cs : List Addr) (xs : List (List Int)) : Prop where
  len : cs.length = xs.length
  at_ : ∀ (i : Nat) (c : Addr) (x : List Int), cs[i]? = some c → xs[i]? = some x → H c = some (.tup (x.map V.int))
theorem Tups.nil {H : Hp} : Tups H [] [] := ⟨rfl, fun i c x e => by simp at e⟩
theorem Tups.mono {H H' : Hp} {cs : List Addr} {xs : List (List Int)} (t : Tups H cs xs) (s : Same H H') : Tups H' cs xs := ⟨t.len, fun i c x e1 e2 => s _ _ (t.at_ i c x e1 e2)⟩
/-- a list of its own changes, which is none of the tuples -/
theorem Tups.store {H : Hp} {cs : List Addr} {xs : List (List Int)} {p : Addr} {l l' : List V} (t : Tups H cs xs) (hp : H p = some (.lst l)) : Tups (upd H p (.lst l')) cs xs := ⟨t.len, fun i c x e1 e2 => by
  have h1 := t.at_ i c x e1 e2
  have n : c ≠ p := by
    intro e
    subst e
    rw [hp] at h1
    cases h1
  rw [upd_ne n]
  exact h1⟩
theorem Tups.snoc {H : Hp} {cs : List Addr} {xs : List (List Int)} {c : Addr} {x : List Int} (t : Tups H cs xs) (h : H c = some (.tup (x.map V.int))) : Tups H (cs ++ [c]) (xs ++ [x]) := by
  have hl := t.len
  refine ⟨by rw [List.length_append, List.length_append, hl]; rfl, fun i c' x' e1 e2 => ?_⟩
  rcases Nat.lt_or_ge i cs.length with c1 | c1
  · rw [List.getElem?_append_left c1] at e1
    rw [List.getElem?_append_left (by omega)] at e2
    exact t.at_ i c' x' e1 e2
  · rw [List.getElem?_append_right c1] at e1
    rw [List.getElem?_append_right (by omega), ← hl] at e2
    cases e0 : i - cs.length with
    | zero =>
      rw [e0] at e1 e2
      obtain rfl := Option.some.inj e1
      obtain rfl := Option.some.inj e2
      exact h
    | succ n =>
      rw [e0] at e1
      simp at e1
def pt2 (P : Nat × Nat) : List Int := [(P.1 : Int), (P.2 : Int)]
theorem Tups.point {H : Hp} {cs : List Addr} {l : List (Nat × Nat)} (t : Tups H cs (l.map pt2)) {i : Nat} {a : Nat × Nat} (ha : l[i]? = some a) : ∃ c, cs[i]? = some c ∧ H c = some (.tup [.int (a.1 : Int), .int (a.2 : Int)]) := by
  have hi := (List.getElem?_eq_some_iff.mp ha).1
  have hl := t.len
  rw [List.length_map] at hl
  refine ⟨cs[i]'(by omega), List.getElem?_eq_getElem (by omega), ?_⟩
  exact t.at_ i _ (pt2 a) (List.getElem?_eq_getElem (by omega)) (by rw [List.getElem?_map, ha]; rfl)
section
variable {P : Program} {w : World} {K : PySem.W.Frag} {mg : Str → Option Value} {base : Heap}
/-! ### points_of -/
abbrev sPt : Stmt := top 19
def spPt (K : PySem.W.Frag) : Sp := fun vs H Q _ => ∃ (a : Addr) (f : List Int) (p : Nat), vs = [.ref a, .int (p : Int)] ∧ SqL K H a (f.map V.int) ∧ f.length ≤ 1000 ∧ 2 ≤ p ∧ p < 1000 ∧ (∀ c ∈ f, c.natAbs < 2 ^ 1000) ∧
  ∀ q H' (cs : List Addr), Same H H' → H q = none → H' q = some (.lst (cs.map V.ref)) → Tups H' cs ((Na03.points f p).map pt2) → Q (.ref q) H'
theorem scPt : FnScope ["numbers", "prime", "power", "number"] ["numbers", "prime"] (defScope sPt) := ⟨rfl, rfl, rfl, by decide +kernel, rfl, by decide +kernel, by decide +kernel⟩
theorem ok_Pt {f : Addr} {fd : FuncData} (F : Fun K "points_of" "points_of" sPt f fd) (O : Own mg) (G : Has P w K mg base 1 "times_divided" ["number", "prime"] spTD) : FnOk P w K mg base CX0 2 f fd ["numbers", "prime"] (spPt K) := by
  obtain ⟨g, gd, G, m1, k1, b1⟩ := G
  refine F.ok scPt (fun vs H Q E h => ?_) (fun cdv A outer s H vs Q E hr h => ?_)
  · obtain ⟨a, f, p, rfl, _⟩ := h
    rfl
  · obtain ⟨a, f, p, rfl, hA, hl, hp, hp2, hb, h⟩ := h
    refine ⟨_, pss_one (ps_ret (pe_lc (own := [("power", 2), ("number", 3)]) (g := gTup K 2 (gCons (gName 2) (gCons (gName 3) gNil))) (by rfl) scPt.nd (pi_enum (by rfl) O.enumerate (pa_cons (pv 0) pa_nil))
        (blkOk_by (own := [("power", 2), ("number", 3)]) (N := ["numbers", "prime", "power", "number"]) (sc := defScope sPt) (by decide +kernel))
        (fun _ _ _ _ _ => pg_tup rfl (pgs_cons (pg_name (i := 2) scPt.nd rfl (Or.inl rfl)) (pgs_cons (pg_name (i := 3) scPt.nd rfl (Or.inl rfl)) pgs_nil)))
        (fun _ _ _ _ _ => pts_one (pt_cmpR op_ne (pv 3) pe_int (nomark _)))
        (fun _ _ _ _ _ => pe_tup (pa_cons (pv 2) (pa_cons (pe_call G hr rfl m1 k1 b1 .nil pass0 (pa_cons (pv 3) (pa_cons (pv 1) pa_nil))) pa_nil))))), ?_⟩
    refine ⟨_, rfl, a, _, rfl, hA, fun D hD => ?_⟩
    refine lc_it (walk_enum (xs := f.map V.int)) (fun i H' => Same H H' ∧ ∃ cs : List Addr, H' D = some (.lst (cs.map V.ref)) ∧ cs.length ≤ i ∧ Tups H' cs ((Na03.points (f.take i) p).map pt2)) ⟨Same.new hD _, [], upd_same, Nat.le_refl _, Tups.nil⟩ (fun i H' _ ⟨s1, _⟩ => s1.seq hA) ?_ ?_
    · rintro i x H1 H2 hi ⟨s1, cs, hD1, hcl, tu⟩ ⟨T, x1, y1, rfl, hT, rfl, ex, ey⟩
      obtain rfl := Option.some.inj ex
      change (f.map V.int)[i]? = some y1 at ey
      rw [List.getElem?_map] at ey
      obtain ⟨fi, hfi, rfl⟩ := Option.map_eq_some_iff.mp ey
      rw [List.length_map] at hi
      have sT := Same.new hT (.tup [.int (i : Nat), .int fi])
      have hpts := points_take f p hfi
      refine ⟨T, _, rfl, SqT.of upd_same, rfl, _, _, rfl, _, _, rfl, rfl, rfl, _, rfl, rfl, _, rfl, ?_⟩
      by_cases c : fi = 0
      · refine if_false_of (by rw [c]; rfl) ?_
        refine ⟨s1.trans sT, cs, sT _ _ hD1, by omega, ?_⟩
        unfold pointOf at hpts
        rw [if_pos c, List.append_nil] at hpts
        rw [hpts]
        exact tu.mono sT
      · refine if_true_of (by rw [decide_eq_false fun z => c (V.int.inj z)]; rfl) ?_
        refine ⟨_, rfl, _, rfl, _, rfl, fi, p, rfl, c, hb fi (List.mem_of_getElem? hfi), hp, hp2, (by show 2 ≤ sizeLine; decide), fun t ht => ?_⟩
        have st := Same.new ht (.tup [.int (i : Nat), .int (Na03.val p 1000 fi : Nat)])
        have hD2 := st _ _ (sT _ _ hD1)
        refine ⟨_, hD2, ?_, Same.own (s1.trans (sT.trans st)) hD, cs ++ [t], ?_, ?_, ?_⟩
        · rw [List.length_map]
          have h5 : sizeLine = 16777216 := rfl
          omega
        · rw [upd_same, List.map_append]
          rfl
        · rw [List.length_append]
          exact Nat.succ_le_succ hcl
        · unfold pointOf at hpts
          rw [if_neg c] at hpts
          rw [hpts, List.map_append]
          exact ((tu.mono (sT.trans st)).snoc (x := pt2 (i, Na03.val p 1000 fi)) upd_same).store hD2
    · rintro H1 ⟨s1, cs, hD1, hcl, tu⟩
      rw [List.length_map, List.take_length] at tu
      exact h D H1 cs s1 hD hD1 tu
/-! ### run_of, rise_of -/
abbrev sRu : Stmt := top 20
abbrev sRi : Stmt := top 21
def At2 (H : Hp) (c : Addr) (a : Nat × Nat) : Prop := H c = some (.tup [.int (a.1 : Int), .int (a.2 : Int)])
def spRu : Sp := fun vs H Q _ => ∃ (s e : Addr) (a b : Nat × Nat), vs = [.ref s, .ref e] ∧ At2 H s a ∧ At2 H e b ∧ Q (.int ((b.1 : Int) - a.1)) H
def spRi : Sp := fun vs H Q _ => ∃ (s e : Addr) (a b : Nat × Nat), vs = [.ref s, .ref e] ∧ At2 H s a ∧ At2 H e b ∧ Q (.int ((b.2 : Int) - a.2)) H
theorem scRu : FnScope ["start", "end"] ["start", "end"] (defScope sRu) := ⟨rfl, rfl, rfl, by decide +kernel, rfl, by decide +kernel, by decide +kernel⟩
theorem scRi : FnScope ["start", "end"] ["start", "end"] (defScope sRi) := ⟨rfl, rfl, rfl, by decide +kernel, rfl, by decide +kernel, by decide +kernel⟩
theorem ok_Ru {f : Addr} {fd : FuncData} (F : Fun K "run_of" "run_of" sRu f fd) : FnOk P w K mg base CX0 1 f fd ["start", "end"] spRu := by
  refine F.ok scRu (fun vs H Q E h => ?_) (fun cdv A outer s H vs Q E hr h => ?_)
  · obtain ⟨s, e, a, b, rfl, _⟩ := h
    rfl
  · obtain ⟨s, e, a, b, rfl, h1, h2, h⟩ := h
    refine ⟨_, pss_one (ps_ret (pe_op op_sub (pe_ix ix_tup (pv 1) pe_int (fun _ _ => rfl)) (pe_ix ix_tup (pv 0) pe_int (fun _ _ => rfl)))), ?_⟩
    exact ⟨_, rfl, e, _, _, _, rfl, rfl, SqT.of h2, atI_nat (j := 0) rfl, _, rfl, s, _, _, _, rfl, rfl, SqT.of h1, atI_nat (j := 0) rfl, _, _, rfl, rfl, h⟩
theorem ok_Ri {f : Addr} {fd : FuncData} (F : Fun K "rise_of" "rise_of" sRi f fd) : FnOk P w K mg base CX0 1 f fd ["start", "end"] spRi := by
  refine F.ok scRi (fun vs H Q E h => ?_) (fun cdv A outer s H vs Q E hr h => ?_)
  · obtain ⟨s, e, a, b, rfl, _⟩ := h
    rfl
  · obtain ⟨s, e, a, b, rfl, h1, h2, h⟩ := h
    refine ⟨_, pss_one (ps_ret (pe_op op_sub (pe_ix ix_tup (pv 1) pe_int (fun _ _ => rfl)) (pe_ix ix_tup (pv 0) pe_int (fun _ _ => rfl)))), ?_⟩
    exact ⟨_, rfl, e, _, _, _, rfl, rfl, SqT.of h2, atI_nat (j := 1) rfl, _, rfl, s, _, _, _, rfl, rfl, SqT.of h1, atI_nat (j := 1) rfl, _, _, rfl, rfl, h⟩
/-! ### rises_no_more -/
abbrev sRm : Stmt := top 22
def spRm : Sp := fun vs H Q _ => ∃ (s e o : Addr) (a b c : Nat × Nat), vs = [.ref s, .ref e, .ref o] ∧ At2 H s a ∧ At2 H e b ∧ At2 H o c ∧ a.1 < 2000 ∧ b.1 < 2000 ∧ c.1 < 2000 ∧
  Q (.bl (decide (((b.2 : Int) - a.2) * ((c.1 : Int) - a.1) ≤ ((c.2 : Int) - a.2) * ((b.1 : Int) - a.1)))) H
theorem scRm : FnScope ["start", "one", "other"] ["start", "one", "other"] (defScope sRm) := ⟨rfl, rfl, rfl, by decide +kernel, rfl, by decide +kernel, by decide +kernel⟩
theorem ok_Rm {f : Addr} {fd : FuncData} (F : Fun K "rises_no_more" "rises_no_more" sRm f fd) (G1 : Has P w K mg base 1 "run_of" ["start", "end"] spRu) (G2 : Has P w K mg base 1 "rise_of" ["start", "end"] spRi) : FnOk P w K mg base CX0 2 f fd ["start", "one", "other"] spRm := by
  obtain ⟨g1, gd1, G1, m1, k1, b1⟩ := G1
  obtain ⟨g2, gd2, G2, m2, k2, b2⟩ := G2
  refine F.ok scRm (fun vs H Q E h => ?_) (fun cdv A outer s H vs Q E hr h => ?_)
  · obtain ⟨s, e, o, a, b, c, rfl, _⟩ := h
    rfl
  · obtain ⟨s, e, o, a, b, c, rfl, h1, h2, h3, l1, l2, l3, h⟩ := h
    refine ⟨_, pss_one (ps_ret (pe_cmpR op_le (pe_op op_mul (pe_call G2 hr rfl m2 k2 b2 .nil pass0 (pa_cons (pv 0) (pa_cons (pv 1) pa_nil))) (pe_call G1 hr rfl m1 k1 b1 .nil pass0 (pa_cons (pv 0) (pa_cons (pv 2) pa_nil))))
      (pe_op op_mul (pe_call G2 hr rfl m2 k2 b2 .nil pass0 (pa_cons (pv 0) (pa_cons (pv 2) pa_nil))) (pe_call G1 hr rfl m1 k1 b1 .nil pass0 (pa_cons (pv 0) (pa_cons (pv 1) pa_nil)))) (nomark _))), ?_⟩
    exact ⟨_, rfl, _, rfl, s, e, a, b, rfl, h1, h2, _, rfl, _, rfl, s, o, a, c, rfl, h1, h3, _, _, rfl, rfl, .inr ⟨by omega, by omega⟩,
      _, rfl, _, rfl, s, o, a, c, rfl, h1, h3, _, rfl, _, rfl, s, e, a, b, rfl, h1, h2, _, _, rfl, rfl, .inr ⟨by omega, by omega⟩, _, _, rfl, rfl, h⟩
/-! ### place_of_next -/
abbrev sPx : Stmt := top 23
def spPx (K : PySem.W.Frag) : Sp := fun vs H Q _ => ∃ (q : Addr) (cs : List Addr) (l : List (Nat × Nat)) (i : Nat), vs = [.ref q, .int (i : Int)] ∧ H q = some (.lst (cs.map V.ref)) ∧ Tups H cs (l.map pt2) ∧ Rising l ∧ (∀ a ∈ l, a.1 < 2000) ∧ l.length < 10000 ∧ i + 1 < l.length ∧
  ∀ k, Best l i k → Q (.int (k : Int)) H
theorem scPx : FnScope ["points", "place", "best", "other"] ["points", "place"] (defScope sPx) := ⟨rfl, rfl, rfl, by decide +kernel, rfl, by decide +kernel, by decide +kernel⟩
theorem ok_Px {f : Addr} {fd : FuncData} (F : Fun K "place_of_next" "place_of_next" sPx f fd) (O : Own mg) (G : Has P w K mg base 2 "rises_no_more" ["start", "one", "other"] spRm) : FnOk P w K mg base CX0 3 f fd ["points", "place"] (spPx K) := by
  obtain ⟨g, gd, G, m1, k1, b1⟩ := G
  refine F.ok scPx (fun vs H Q E h => ?_) (fun cdv A outer s H vs Q E hr h => ?_)
  · obtain ⟨q, cs, l, i, rfl, _⟩ := h
    rfl
  · obtain ⟨q, cs, l, i, rfl, hq, tu, R, hs, hll, hi, h⟩ := h
    refine ⟨_, pss_cons (ps_set (i := 2) scPx.nd rfl (Or.inl rfl) (pe_op op_add (pv 1) pe_int))
      (pss_cons (ps_for PassesOwn.never rfl (pi_range2 (by rfl) O.range (pa_cons (pe_op op_add (pv 1) pe_int) (pa_cons (pe_callB call_len_seq (by rfl) O.len PySem.boot_len (pa_cons (pv 0) pa_nil)) pa_nil))) (pg_name (i := 3) scPx.nd rfl (Or.inl rfl))
        (pss_one (ps_if (pt_val (pe_call G hr rfl m1 k1 b1 .nil pass0 (pa_cons (pe_ix ix_list (pv 0) (pv 1) (fun _ _ => rfl)) (pa_cons (pe_ix ix_list (pv 0) (pv 3) (fun _ _ => rfl)) (pa_cons (pe_ix ix_list (pv 0) (pv 2) (fun _ _ => rfl)) pa_nil)))))
          (pss_one (ps_set (i := 2) scPx.nd rfl (Or.inl rfl) (pv 3))) pss_nil)))
      (pss_one (ps_ret (pv 2)))), ?_⟩
    have hcl : cs.length = l.length := by
      have := tu.len
      rwa [List.length_map] at this
    have href : ∀ {k : Nat} {c : Addr}, cs[k]? = some c → (cs.map V.ref)[k]? = some (.ref c) := fun {k c} e => by rw [List.getElem?_map, e]; rfl
    refine ⟨_, rfl, _, _, rfl, rfl, _, rfl, _, _, rfl, rfl, _, rfl, q, _, rfl, .inl (SqL.of hq), ((i : Nat) : Int) + 2, (((cs.map V.ref).length : Nat) : Int), rfl, ⟨by omega, by omega, by omega, by rw [List.length_map]; omega⟩, ?_⟩
    · rw [List.length_map, hcl]
      have eN : ((((l.length : Nat) : Int)) - (((i : Nat) : Int) + 2)).toNat = l.length - (i + 2) := by omega
      refine for_range (lo := ((i : Nat) : Int) + 2) (n := _) (fun t σ H' => H' = H ∧ ∃ (k : Nat) (v : Option V), σ = [some (.ref q), some (.int (i : Int)), some (.int (k : Int)), v] ∧ BestTo l i k (i + 2 + t)) ⟨rfl, i + 1, none, ?_, BestTo.start l i⟩ ?_ ?_
      · rfl
      · rintro t σ H' ht ⟨rfl, k, v, rfl, B⟩
        rw [eN] at ht
        have b1 := B.lt
        have b2 := B.inn
        have en : (((i : Nat) : Int) + 2) + ((t : Nat) : Int) = ((i + 2 + t : Nat) : Int) := by omega
        rw [en]
        obtain ⟨a, ha⟩ : ∃ a, l[i]? = some a := ⟨l[i]'(by omega), List.getElem?_eq_getElem (by omega)⟩
        obtain ⟨c, hc⟩ : ∃ c, l[k]? = some c := ⟨l[k]'(by omega), List.getElem?_eq_getElem (by omega)⟩
        obtain ⟨d, hd⟩ : ∃ d, l[i + 2 + t]? = some d := ⟨l[i + 2 + t]'(by omega), List.getElem?_eq_getElem (by omega)⟩
        obtain ⟨ca, qa, pa⟩ := tu.point ha
        obtain ⟨cc, qc, pc⟩ := tu.point hc
        obtain ⟨cd, qd, pd⟩ := tu.point hd
        refine ⟨_, rfl, _, rfl, q, _, _, _, rfl, rfl, SqL.of hq, atI_nat (href qa), _, rfl, _, rfl, q, _, _, _, rfl, rfl, SqL.of hq, atI_nat (href qd), _, rfl, _, rfl, q, _, _, _, rfl, rfl, SqL.of hq, atI_nat (href qc),
          ca, cd, cc, a, d, c, rfl, pa, pd, pc, hs a (List.mem_of_getElem? ha), hs d (List.mem_of_getElem? hd), hs c (List.mem_of_getElem? hc), _, rfl, ?_⟩
        by_cases e : ((d.2 : Int) - a.2) * ((c.1 : Int) - a.1) ≤ ((c.2 : Int) - a.2) * ((d.1 : Int) - a.1)
        · refine if_true_of (decide_eq_true e) ?_
          exact ⟨_, rfl, rfl, i + 2 + t, _, rfl, B.next R ha hc hd e⟩
        · refine if_false_of (decide_eq_false e) ?_
          exact ⟨rfl, k, _, rfl, B.keep ha hc hd e⟩
      · rintro σ H' ⟨rfl, k, v, rfl, B⟩
        refine ⟨_, rfl, h k ?_⟩
        rw [eN] at B
        have e2 : i + 2 + (l.length - (i + 2)) = l.length := by omega
        rw [e2] at B
        exact B.best
end
end LR
set_option Elab.async false
set_option maxRecDepth 100000
set_option maxHeartbeats 2000000
set_option linter.unusedVariables false
namespace LR
open PySem PySem.Spec PyProof.Rows L2
section
variable {P : Program} {w : World} {K : PySem.W.Frag} {mg : Str → Option Value} {base : Heap}
/-! ### greatest_common_divisor -/
abbrev sGc : Stmt := top 24
def spGc : Sp := fun vs H Q _ => ∃ (x y : Int), vs = [.int x, .int y] ∧ Q (.int ((Nat.gcd x.natAbs y.natAbs : Nat) : Int)) H
theorem scGc : FnScope ["one", "other", "divisor", "rest", "left"] ["one", "other"] (defScope sGc) := ⟨rfl, rfl, rfl, by decide +kernel, rfl, by decide +kernel, by decide +kernel⟩
theorem abs_nat (x : Int) : (if x < 0 then -x else x) = ((x.natAbs : Nat) : Int) := by split <;> omega
theorem ok_Gc {f : Addr} {fd : FuncData} (F : Fun K "greatest_common_divisor" "greatest_common_divisor" sGc f fd) (O : Own mg) : FnOk P w K mg base CX0 1 f fd ["one", "other"] spGc := by
  refine F.ok scGc (fun vs H Q E h => ?_) (fun cdv A outer s H vs Q E hr h => ?_)
  · obtain ⟨x, y, rfl, _⟩ := h
    rfl
  · obtain ⟨x, y, rfl, h⟩ := h
    refine ⟨_, pss_cons (ps_set (i := 2) scGc.nd rfl (Or.inl rfl) (pe_callB call_abs (by rfl) O.abs (by decide +kernel) (pa_cons (pv 0) pa_nil)))
      (pss_cons (ps_set (i := 3) scGc.nd rfl (Or.inl rfl) (pe_callB call_abs (by rfl) O.abs (by decide +kernel) (pa_cons (pv 1) pa_nil)))
      (pss_cons (ps_while PassesOwn.never (pt_cmpR op_ne (pv 3) pe_int (nomark _))
        (pss_cons (ps_set (i := 4) scGc.nd rfl (Or.inl rfl) (pe_op op_modN (pv 2) (pv 3)))
        (pss_cons (ps_set (i := 2) scGc.nd rfl (Or.inl rfl) (pv 3)) (pss_one (ps_set (i := 3) scGc.nd rfl (Or.inl rfl) (pv 4))))))
      (pss_one (ps_ret (pv 2))))), ?_⟩
    refine ⟨_, rfl, _, rfl, _, rfl, _, rfl, ?_⟩
    rw [abs_nat, abs_nat]
    refine ⟨fun m σ H' => ∃ (d r : Nat) (v : Option V), m = r ∧ σ = [some (.int x), some (.int y), some (.int (d : Nat)), some (.int (r : Nat)), v] ∧ H' = H ∧ Nat.gcd d r = Nat.gcd x.natAbs y.natAbs,
      ⟨y.natAbs, x.natAbs, y.natAbs, none, rfl, rfl, rfl, rfl⟩, ?_⟩
    rintro m σ H' ⟨d, r, v, rfl, rfl, rfl, e⟩
    refine ⟨_, rfl, rfl, _, rfl, ?_⟩
    by_cases c : m = 0
    · subst c
      refine if_false_of (by rfl) ?_
      refine ⟨_, rfl, ?_⟩
      rw [Nat.gcd_zero_right] at e
      rw [e]
      exact h
    · refine if_true_of (by rw [decide_eq_false fun z => c (by have := V.int.inj z; omega)]; rfl) ?_
      have m0 : ((m : Nat) : Int) ≠ 0 := by omega
      refine ⟨_, fun σ' H' hN => hN, _, rfl, _, rfl, _, _, rfl, rfl, m0, _, rfl, _, rfl, d % m, Nat.mod_lt _ (by omega), m, d % m, some (.int ((d % m : Nat) : Int)), rfl, ?_, rfl, ?_⟩
      · have em : (((d : Nat) : Int)).fmod ((m : Nat) : Int) = ((d % m : Nat) : Int) := by
          rw [Int.fmod_eq_emod_of_nonneg _ (by omega)]
          push_cast
          rfl
        rw [← em]
        rfl
      · rw [← e, Nat.gcd_comm d m, Nat.gcd_rec m d, Nat.gcd_comm]
/-! ### way_between -/
abbrev sWb : Stmt := top 25
def spWb : Sp := fun vs H Q _ => ∃ (s e : Addr) (a b : Nat × Nat), vs = [.ref s, .ref e] ∧ At2 H s a ∧ At2 H e b ∧ a.1 < b.1 ∧ b.1 < 2000 ∧
  ∀ q, H q = none → Q (.ref q) (upd H q (.tup ((told3 (Na03.steep a b, b.1 - a.1)).map V.int)))
theorem scWb : FnScope ["start", "end", "rise", "run", "divisor"] ["start", "end"] (defScope sWb) := ⟨rfl, rfl, rfl, by decide +kernel, rfl, by decide +kernel, by decide +kernel⟩
theorem ok_Wb {f : Addr} {fd : FuncData} (F : Fun K "way_between" "way_between" sWb f fd) (G1 : Has P w K mg base 1 "run_of" ["start", "end"] spRu) (G2 : Has P w K mg base 1 "rise_of" ["start", "end"] spRi) (G3 : Has P w K mg base 1 "greatest_common_divisor" ["one", "other"] spGc) :
    FnOk P w K mg base CX0 2 f fd ["start", "end"] spWb := by
  obtain ⟨g1, gd1, G1, m1, k1, b1⟩ := G1
  obtain ⟨g2, gd2, G2, m2, k2, b2⟩ := G2
  obtain ⟨g3, gd3, G3, m3, k3, b3⟩ := G3
  refine F.ok scWb (fun vs H Q E h => ?_) (fun cdv A outer s H vs Q E hr h => ?_)
  · obtain ⟨s, e, a, b, rfl, _⟩ := h
    rfl
  · obtain ⟨s, e, a, b, rfl, h1, h2, hab, hb, h⟩ := h
    refine ⟨_, pss_cons (ps_set (i := 2) scWb.nd rfl (Or.inl rfl) (pe_call G2 hr rfl m2 k2 b2 .nil pass0 (pa_cons (pv 0) (pa_cons (pv 1) pa_nil))))
      (pss_cons (ps_set (i := 3) scWb.nd rfl (Or.inl rfl) (pe_call G1 hr rfl m1 k1 b1 .nil pass0 (pa_cons (pv 0) (pa_cons (pv 1) pa_nil))))
      (pss_cons (ps_set (i := 4) scWb.nd rfl (Or.inl rfl) (pe_call G3 hr rfl m3 k3 b3 .nil pass0 (pa_cons (pv 2) (pa_cons (pv 3) pa_nil))))
      (pss_one (ps_ret (pe_tup (pa_cons (pe_op op_fdivN (pv 2) (pv 4)) (pa_cons (pe_op op_fdivN (pv 3) (pv 4)) (pa_cons (pv 3) pa_nil)))))))), ?_⟩
    have eg : Nat.gcd ((b.2 : Int) - a.2).natAbs ((b.1 : Int) - a.1).natAbs = (b.1 - a.1).gcd ((b.2 : Int) - a.2).natAbs := by
      rw [Nat.gcd_comm]
      congr 1
      omega
    have hgp : 0 < (b.1 - a.1).gcd ((b.2 : Int) - a.2).natAbs := Nat.gcd_pos_of_pos_left _ (by omega)
    have hgl : (b.1 - a.1).gcd ((b.2 : Int) - a.2).natAbs ≤ b.1 - a.1 := Nat.gcd_le_left _ (by omega)
    refine ⟨_, rfl, _, rfl, s, e, a, b, rfl, h1, h2, _, rfl, _, rfl, s, e, a, b, rfl, h1, h2, _, rfl, _, rfl, _, _, rfl, ?_⟩
    rw [eg]
    generalize hG : (b.1 - a.1).gcd ((b.2 : Int) - a.2).natAbs = G at hgp hgl ⊢
    have G0 : ((G : Nat) : Int) ≠ 0 := by omega
    refine ⟨_, rfl, _, rfl, _, _, rfl, rfl, ⟨G0, by omega⟩, _, rfl, _, rfl, _, _, rfl, rfl, ⟨G0, by omega⟩, _, rfl, (by show 3 ≤ sizeLine; decide), fun q hq => ?_⟩
    have hq' := h q hq
    rw [told3_steep hab, hG] at hq'
    have e1 : ((b.2 : Int) - a.2).fdiv ((G : Nat) : Int) = ((b.2 : Int) - a.2) / ((G : Nat) : Int) := Int.fdiv_eq_ediv_of_nonneg _ (by omega)
    have e3 : (b.1 : Int) - a.1 = ((b.1 - a.1 : Nat) : Int) := by omega
    have e2 : ((b.1 : Int) - a.1).fdiv ((G : Nat) : Int) = (((b.1 - a.1) / G : Nat) : Int) := by
      rw [e3, Int.fdiv_eq_ediv_of_nonneg _ (by omega)]
      push_cast
      rfl
    show Q (.ref q) (upd H q (.tup [.int (((b.2 : Int) - a.2).fdiv ((G : Nat) : Int)), .int (((b.1 : Int) - a.1).fdiv ((G : Nat) : Int)), .int ((b.1 : Int) - a.1)]))
    rw [e1, e2, e3]
    exact hq'
/-! ### ways_of -/
abbrev sWo : Stmt := top 26
def spWo (K : PySem.W.Frag) : Sp := fun vs H Q _ => ∃ (a : Addr) (f : List Int) (p : Nat), vs = [.ref a, .int (p : Int)] ∧ SqL K H a (f.map V.int) ∧ f.length ≤ 1000 ∧ 2 ≤ p ∧ p < 1000 ∧ (∀ c ∈ f, c.natAbs < 2 ^ 1000) ∧ Tight f ∧ f ≠ [] ∧
  ∀ q H' (cs : List Addr), Same H H' → H q = none → H' q = some (.lst (cs.map V.ref)) → Tups H' cs ((Na03.slopes f p).map told3) → Q (.ref q) H'
theorem scWo : FnScope ["numbers", "prime", "points", "ways", "place", "behind"] ["numbers", "prime"] (defScope sWo) := ⟨rfl, rfl, rfl, by decide +kernel, rfl, by decide +kernel, by decide +kernel⟩
theorem ok_Wo {f : Addr} {fd : FuncData} (F : Fun K "ways_of" "ways_of" sWo f fd) (O : Own mg) (G1 : Has P w K mg base 2 "points_of" ["numbers", "prime"] (spPt K)) (G2 : Has P w K mg base 3 "place_of_next" ["points", "place"] (spPx K)) (G3 : Has P w K mg base 2 "way_between" ["start", "end"] spWb) :
    FnOk P w K mg base CX0 4 f fd ["numbers", "prime"] (spWo K) := by
  obtain ⟨g1, gd1, G1, m1, k1, b1⟩ := G1
  obtain ⟨g2, gd2, G2, m2, k2, b2⟩ := G2
  obtain ⟨g3, gd3, G3, m3, k3, b3⟩ := G3
  refine F.ok scWo (fun vs H Q E h => ?_) (fun cdv A outer s H vs Q E hr h => ?_)
  · obtain ⟨a, f, p, rfl, _⟩ := h
    rfl
  · obtain ⟨a, f, p, rfl, hA, hl, hp, hp2, hb, ht, hne, h⟩ := h
    refine ⟨_, pss_cons (ps_set (i := 2) scWo.nd rfl (Or.inl rfl) (pe_call G1 (hr.mono (by decide)) rfl m1 k1 b1 .nil pass0 (pa_cons (pv 0) (pa_cons (pv 1) pa_nil))))
      (pss_cons (ps_set (i := 3) scWo.nd rfl (Or.inl rfl) (pe_lst pa_nil)) (pss_cons (ps_set (i := 4) scWo.nd rfl (Or.inl rfl) pe_int)
      (pss_cons (ps_while PassesOwn.never (pt_cmpR op_lt (pv 4) (pe_op op_sub (pe_callB call_len_seq (by rfl) O.len PySem.boot_len (pa_cons (pv 2) pa_nil)) pe_int) (nomark _))
        (pss_cons (ps_set (i := 5) scWo.nd rfl (Or.inl rfl) (pe_call G2 hr rfl m2 k2 b2 .nil pass0 (pa_cons (pv 2) (pa_cons (pv 4) pa_nil))))
        (pss_cons (ps_expr (pe_bm PySem.F.plainAttrs_list PySem.F.slot_list_append PySem.F.type_list_append mt_append (pv 3) (pa_cons (pe_call G3 (hr.mono (by decide)) rfl m3 k3 b3 .nil pass0 (pa_cons (pe_ix ix_list (pv 2) (pv 4) (fun _ _ => rfl)) (pa_cons (pe_ix ix_list (pv 2) (pv 5) (fun _ _ => rfl)) pa_nil))) pa_nil)))
        (pss_one (ps_set (i := 4) scWo.nd rfl (Or.inl rfl) (pv 5))))))
      (pss_one (ps_ret (pv 3)))))), ?_⟩
    refine ⟨_, rfl, _, rfl, a, f, p, rfl, hA, hl, hp, hp2, hb, fun Pq H1 ps s1 hP0 hP1 tp => ?_⟩
    refine ⟨Nat.zero_le _, fun W hW => ?_⟩
    have nPW : Pq ≠ W := Same.ne (H' := H1) hP1 hW
    have sW := Same.new hW (.lst [])
    have hWH : H W = none := s1.free hW
    have R := points_rising f p
    have hplen := points_len f p
    have hpne : 0 < (Na03.points f p).length := List.length_pos_iff.mpr (points_ne ht hne p)
    have hpsl : ps.length = (Na03.points f p).length := by
      have := tp.len
      rwa [List.length_map] at this
    have hsm : ∀ a ∈ Na03.points f p, a.1 < 2000 := fun a ha => by
      have := (points_small a ha).1
      omega
    have hsl := ways_slopes f p
    generalize Na03.points f p = l at *
    refine ⟨fun m σ H' => ∃ (i n : Nat) (ws : List (Rat × Nat)) (cs : List Addr) (v : Option V), m = l.length - i ∧ σ = [some (.ref a), some (.int p), some (.ref Pq), some (.ref W), some (.int (i : Nat)), v] ∧
        Same H H' ∧ H' Pq = some (.lst (ps.map V.ref)) ∧ Tups H' ps (l.map pt2) ∧ H' W = some (.lst (cs.map V.ref)) ∧ Tups H' cs (ws.map told3) ∧ i < l.length ∧ l.length ≤ i + n + 1 ∧ ws.length ≤ i ∧ ws ++ ways l (n + 1) i = Na03.slopes f p,
      ⟨l.length, 0, f.length, [], [], none, rfl, rfl, s1.trans sW, sW _ _ hP1, tp.mono sW, upd_same, Tups.nil, hpne, by omega, Nat.le_refl _, hsl.symm⟩, ?_⟩
    rintro m σ H2 ⟨i, n, ws, cs, v, rfl, rfl, s2, hP2, tp2, hW2, tw2, hi, hn, hws, e⟩
    refine ⟨_, rfl, _, rfl, Pq, _, rfl, .inl (SqL.of hP2), _, _, rfl, rfl, _, _, rfl, rfl, _, rfl, ?_⟩
    rw [List.length_map, hpsl]
    by_cases c : i + 1 < l.length
    · refine if_true_of (decide_eq_true (by omega)) ?_
      obtain ⟨n, rfl⟩ : ∃ n', n = n' + 1 := ⟨n - 1, by omega⟩
      refine ⟨_, fun σ' H' hN => hN, _, rfl, _, rfl, Pq, ps, l, i, rfl, hP2, tp2, R, hsm, by omega, c, fun k B => ?_⟩
      have bk := B.lt
      have bn := B.inn
      obtain ⟨x, hx⟩ : ∃ x, l[i]? = some x := ⟨l[i]'hi, List.getElem?_eq_getElem hi⟩
      obtain ⟨y, hy⟩ : ∃ y, l[k]? = some y := ⟨l[k]'bn, List.getElem?_eq_getElem bn⟩
      obtain ⟨cx, qx, px⟩ := tp2.point hx
      obtain ⟨cy, qy, py⟩ := tp2.point hy
      have href : ∀ {k : Nat} {c : Addr}, ps[k]? = some c → (ps.map V.ref)[k]? = some (.ref c) := fun {k c} e => by rw [List.getElem?_map, e]; rfl
      have hxy := R.lt bk hx hy
      refine ⟨_, rfl, .inl ⟨rfl, _, SqL.of hW2⟩, _, rfl, _, rfl, Pq, _, _, _, rfl, rfl, SqL.of hP2, atI_nat (href qx), _, rfl, _, rfl, Pq, _, _, _, rfl, rfl, SqL.of hP2, atI_nat (href qy),
        cx, cy, x, y, rfl, px, py, hxy, hsm y (List.mem_of_getElem? hy), fun t ht0 => ?_⟩
      have st := Same.new ht0 (.tup ((told3 (Na03.steep x y, y.1 - x.1)).map V.int))
      have hW3 := st _ _ hW2
      have hcs : cs.length = ws.length := by
        have := tw2.len
        rwa [List.length_map] at this
      refine ⟨W, _, _, rfl, rfl, hW3, ?_, ?_⟩
      · rw [List.length_map]
        have h5 : sizeLine = 16777216 := rfl
        omega
      · refine ⟨_, rfl, l.length - k, by omega, k, n, ws ++ [(Na03.steep x y, y.1 - x.1)], cs ++ [t], some (.int (k : Nat)), rfl, rfl, Same.own (s2.trans st) hWH, (upd_ne nPW).trans (st _ _ hP2), (tp2.mono st).store hW3, ?_, ?_, bn, by omega, ?_, ?_⟩
        · rw [upd_same, List.map_append]
          rfl
        · rw [List.map_append]
          exact ((tw2.mono st).snoc (x := told3 (Na03.steep x y, y.1 - x.1)) upd_same).store hW3
        · rw [List.length_append, List.length_singleton]
          omega
        · rw [← e, ways_step R B hx hy, List.append_assoc]
          rfl
    · refine if_false_of (decide_eq_false (by omega)) ?_
      rw [ways_end (by omega), List.append_nil] at e
      rw [e] at tw2
      exact ⟨_, rfl, h W H2 cs s2 hWH hW2 tw2⟩
end
end LR
set_option Elab.async false
set_option maxRecDepth 100000
set_option maxHeartbeats 2000000
set_option linter.unusedVariables false
namespace LR
open PySem PySem.Spec PyProof.Rows L2
/-! ### the object -/
def lF (a : Addr) (p : Nat) : List (Str × V) := [("numbers", .ref a), ("prime", .int (p : Int))]
def LineAt (C : Addr) (H : Hp) (x : Addr) (d : Na03.Desk) : Prop := ∃ dx a, H x = some (.ins C dx (lF a d.p)) ∧ H a = some (.lst (d.f.map V.int))
theorem lk_here {k : Str} {v : V} {r : List (Str × V)} : List.lookup k ((k, v) :: r) = some v := by
  have e : (k == k) = true := beq_self_eq_true k
  simp only [List.lookup, e]
theorem lk_past {k g : Str} {v : V} {r : List (Str × V)} (h : (k == g) = false) : List.lookup k ((g, v) :: r) = List.lookup k r := by
  simp only [List.lookup, h]
theorem put_here {f : Str} {v x : V} {r : List (Str × V)} : putF f v ((f, x) :: r) = (f, v) :: r := if_pos rfl
theorem put_past {f g : Str} {v x : V} {r : List (Str × V)} (h : ¬ g = f) : putF f v ((g, x) :: r) = (g, x) :: putF f v r := if_neg h
theorem lF_numbers (a : Addr) (p : Nat) : (lF a p).lookup ("numbers" : Str) = some (.ref a) := lk_here
theorem lF_prime (a : Addr) (p : Nat) : (lF a p).lookup ("prime" : Str) = some (.int (p : Int)) := (lk_past (by decide +kernel)).trans lk_here
theorem lF_no {m : Str} (h1 : (m == ("numbers" : Str)) = false) (h2 : (m == ("prime" : Str)) = false) (a : Addr) (p : Nat) : (lF a p).lookup m = none := (lk_past h1).trans ((lk_past h2).trans rfl)
theorem lF_put_numbers (a b : Addr) (p : Nat) : putF "numbers" (.ref b) (lF a p) = lF b p := put_here
theorem lF_put_prime (a : Addr) (p q : Nat) : putF "prime" (.int (q : Int)) (lF a p) = lF a q := (put_past (by decide +kernel)).trans (congrArg _ put_here)
/-- all but the object at x stands as it was -/
def Bar (x : Addr) (H H' : Hp) : Prop := ∀ b o, H b = some o → b ≠ x → H' b = some o
theorem Bar.of {x : Addr} {H H' : Hp} (s : Same H H') : Bar x H H' := fun b o e _ => s b o e
/-- the list that the object holds is new, or the one that it held -/
def Fresh (C x : Addr) (H H' : Hp) : Prop := ∀ dx a p, H' x = some (.ins C dx (lF a p)) → H a = none ∨ ∃ dx' p', H x = some (.ins C dx' (lF a p'))
theorem lF_inj {a b : Addr} {p q : Nat} (h : lF a p = lF b q) : a = b := by
  unfold lF at h
  have h1 := (List.cons.inj h).1
  exact V.ref.inj (Prod.mk.inj h1).2
theorem fresh_new {C x dx a : Addr} {p : Nat} {H H' : Hp} (h : H' x = some (.ins C dx (lF a p))) (ha : H a = none) : Fresh C x H H' := fun dx' a' p' e => by
  rw [h] at e
  have e1 := Option.some.inj e
  injection e1 with _ _ e2
  rw [← lF_inj e2]
  exact .inl ha
theorem fresh_old {C x dx dx0 a : Addr} {p p0 : Nat} {H H' : Hp} (h : H' x = some (.ins C dx (lF a p))) (ha : H x = some (.ins C dx0 (lF a p0))) : Fresh C x H H' := fun dx' a' p' e => by
  rw [h] at e
  have e1 := Option.some.inj e
  injection e1 with _ _ e2
  rw [← lF_inj e2]
  exact .inr ⟨dx0, p0, ha⟩
/-- the call is done as the specification tells -/
def Done (C x : Addr) (d : Na03.Desk) (c : Na03.Call) (H : Hp) (Q : VK) : Prop :=
  ∀ H' l, LineAt C H' x (Na03.step d c).1 → Fresh C x H H' → Bar x H H' → H l = none → H' l = some (.lst ((Na03.step d c).2.map V.int)) → Q (.ref l) H'
/-- what the top has written -/
structure Txt (K : PySem.W.Frag) (mg : Str → Option Value) (C : Addr) : Prop where
  own : Own mg
  cl : Cls K C
  nN : NoAttr K C "numbers"
  nP : NoAttr K C "prime"
  gC : mg "Line" = some (.ref C)
/-- an answer of which the state is the same -/
theorem Done.same {C x : Addr} {d : Na03.Desk} {c : Na03.Call} {H : Hp} {Q : VK} (h : Done C x d c H Q) (L : LineAt C H x d) (e1 : (Na03.step d c).1 = d) {l : List Int} (e2 : (Na03.step d c).2 = l) {H' : Hp} {q : Addr} (s : Same H H') (hq : H q = none) (hq' : H' q = some (.lst (l.map V.int))) : Q (.ref q) H' := by
  obtain ⟨dx, a, h1, h2⟩ := L
  refine h H' q ?_ (fresh_old (s _ _ h1) h1) (Bar.of s) hq ?_
  · rw [e1]
    exact ⟨dx, a, s _ _ h1, s _ _ h2⟩
  · rw [e2]
    exact hq'
section
variable {P : Program} {w : World} {K : PySem.W.Frag} {mg : Str → Option Value} {base : Heap} {C : Addr}
/-! ### counted -/
abbrev sCo : Stmt := top 51
def spCo (K : PySem.W.Frag) : Sp := fun vs H Q _ => ∃ (a : Addr) (l : List Int), vs = [.ref a] ∧ H a = some (.lst (l.map V.int)) ∧ l.length < 16777000 ∧
  ∀ q H', Same H H' → H q = none → H' q = some (.lst ((((l.length : Nat) : Int) :: l).map V.int)) → Q (.ref q) H'
theorem scCo : FnScope ["numbers"] ["numbers"] (defScope sCo) := ⟨rfl, rfl, rfl, by decide +kernel, rfl, by decide +kernel, by decide +kernel⟩
theorem ok_Co {f : Addr} {fd : FuncData} (F : Fun K "counted" "counted" sCo f fd) (O : Own mg) : FnOk P w K mg base CX0 1 f fd ["numbers"] (spCo K) := by
  refine F.ok scCo (fun vs H Q E h => ?_) (fun cdv A outer s H vs Q E hr h => ?_)
  · obtain ⟨a, l, rfl, _⟩ := h
    rfl
  · obtain ⟨a, l, rfl, hS, hl, h⟩ := h
    refine ⟨_, pss_one (ps_ret (pe_op op_cat (pe_lst (pa_cons (pe_callB call_len_seq (by rfl) O.len PySem.boot_len (pa_cons (pv 0) pa_nil)) pa_nil)) (pv 0))), ?_⟩
    refine ⟨_, rfl, a, _, rfl, .inl (SqL.of hS), (by show 1 ≤ sizeLine; decide), fun r hr0 => ?_⟩
    have s1 := Same.new hr0 (.lst [.int ((l.map V.int).length : Nat)])
    refine ⟨_, rfl, r, a, _, _, rfl, rfl, upd_same, s1 _ _ hS, ?_, fun q hq => ?_⟩
    · rw [List.length_map]
      have h5 : sizeLine = 16777216 := rfl
      show 1 + l.length ≤ _
      omega
    · refine h q _ (s1.trans (Same.new hq _)) (s1.free hq) ?_
      rw [upd_same, List.length_map]
      rfl
/-! ### Line.__init__ -/
abbrev sLi : Stmt := top 50
abbrev sIn : Stmt := inClass sLi 0
def spIn (C : Addr) : Sp := fun vs H Q _ => ∃ (x dx : Addr), vs = [.ref x] ∧ H x = some (.ins C dx []) ∧
  ∀ H' : Hp, LineAt C H' x Na03.init → Fresh C x H H' → Bar x H H' → Q .non H'
theorem scIn : FnScope ["self"] ["self"] (defScope sIn) := ⟨rfl, rfl, rfl, by decide +kernel, rfl, by decide +kernel, by decide +kernel⟩
theorem ok_In {f : Addr} {fd : FuncData} (F : Fun K "__init__" "Line.__init__" sIn f fd) (T : Txt K mg C) : FnOk P w K mg base CX0 1 f fd ["self"] (spIn C) := by
  refine F.ok scIn (fun vs H Q E h => ?_) (fun cdv A outer s H vs Q E hr h => ?_)
  · obtain ⟨x, dx, rfl, _⟩ := h
    rfl
  · obtain ⟨x, dx, rfl, hx, h⟩ := h
    refine ⟨_, pss_cons (ps_fld (pv 0) (pe_lst (pa_cons pe_int (pa_cons pe_int pa_nil))) rfl) (pss_one (ps_fld (pv 0) pe_int rfl)), ?_⟩
    refine ⟨(by show 2 ≤ sizeLine; decide), fun a ha => ?_⟩
    have s1 := Same.new ha (.lst [.int 0, .int 1])
    have nax : a ≠ x := by
      intro e
      subst e
      rw [hx] at ha
      cases ha
    refine ⟨_, rfl, x, C, dx, [], rfl, s1 _ _ hx, T.cl, T.nN, (by show 0 < 1000; decide), ?_⟩
    refine ⟨_, rfl, x, C, dx, _, rfl, upd_same, T.cl, T.nP, (by show 1 < 1000; decide), ?_⟩
    have hxx : (upd (upd (upd H a (.lst [.int 0, .int 1])) x (.ins C dx (putF "numbers" (.ref a) []))) x (.ins C dx (putF "prime" (.int 2) (putF "numbers" (.ref a) [])))) x = some (.ins C dx (lF a 2)) := by
      rw [upd_same]
      rfl
    refine h _ ⟨dx, a, hxx, ?_⟩ (fresh_new hxx ha) ?_
    · rw [upd_ne nax, upd_ne nax, upd_same]
      rfl
    · intro b o e hb
      rw [upd_ne hb, upd_ne hb]
      exact s1 _ _ e
/-! ### Line.take_prime -/
abbrev sTP : Stmt := inClass sLi 5
def spTP (K : PySem.W.Frag) (C : Addr) : Sp := fun vs H Q _ => ∃ (x : Addr) (d : Na03.Desk) (p : Nat), vs = [.ref x, .int (p : Int)] ∧ LineAt C H x d ∧ Done C x d (.prime p) H Q
theorem scTP : FnScope ["self", "prime"] ["self", "prime"] (defScope sTP) := ⟨rfl, rfl, rfl, by decide +kernel, rfl, by decide +kernel, by decide +kernel⟩
theorem ok_TP {f : Addr} {fd : FuncData} (F : Fun K "take_prime" "Line.take_prime" sTP f fd) (T : Txt K mg C) {aP : Addr} (gP : mg "PRIMES" = some (.ref aP)) (kP : ∀ H, SqT K H aP [.int 2, .int 3, .int 5, .int 7]) : FnOk P w K mg base CX0 1 f fd ["self", "prime"] (spTP K C) := by
  refine F.ok scTP (fun vs H Q E h => ?_) (fun cdv A outer s H vs Q E hr h => ?_)
  · obtain ⟨x, d, p, rfl, _⟩ := h
    rfl
  · obtain ⟨x, d, p, rfl, L, h⟩ := h
    refine ⟨_, pss_cons (ps_if (pt_cmpR op_notIn_seq (pv 1) (pe_glob (v := .ref aP) rfl gP rfl) (by rfl)) (pss_one (ps_ret (pe_lst (pa_cons (pe_un un_neg pe_int) pa_nil)))) pss_nil)
      (pss_cons (ps_fld (pv 0) (pv 1) rfl) (pss_one (ps_ret (pe_lst (pa_cons pe_int pa_nil))))), ?_⟩
    refine ⟨_, rfl, aP, _, rfl, .inr (kP _), rfl, rfl, _, rfl, ?_⟩
    have e : (!inV (.int (p : Int)) [.int 2, .int 3, .int 5, .int 7]) = ![2, 3, 5, 7].contains p := by
      congr 1
      simp only [inV, List.any, eqV, List.contains, List.elem]
      have hb : ∀ k : Nat, ((k : Int) == (p : Int)) = (p == k) := fun k => by
        by_cases c : p = k
        · subst c; simp
        · rw [beq_false_of_ne c, beq_false_of_ne (by omega)]
      have h2 : ((2 : Int) == (p : Int)) = (p == 2) := hb 2
      have h3 : ((3 : Int) == (p : Int)) = (p == 3) := hb 3
      have h5 : ((5 : Int) == (p : Int)) = (p == 5) := hb 5
      have h7 : ((7 : Int) == (p : Int)) = (p == 7) := hb 7
      rw [h2, h3, h5, h7]
      cases p == 2 <;> cases p == 3 <;> cases p == 5 <;> cases p == 7 <;> rfl
    show (if (!inV (.int (p : Int)) [.int 2, .int 3, .int 5, .int 7]) = true then _ else _)
    rw [e]
    have es : Na03.step d (.prime p) = if [2, 3, 5, 7].contains p = false then (d, [-1]) else ({ d with p := p }, [0]) := rfl
    cases c : [2, 3, 5, 7].contains p with
    | false =>
      rw [c, if_pos rfl] at es
      refine if_true_of rfl ?_
      refine ⟨_, rfl, (by show 1 ≤ sizeLine; decide), fun q hq => ?_⟩
      exact h.same L (by rw [es]) (l := [-1]) (by rw [es]) (Same.new hq _) hq upd_same
    | true =>
      rw [c, if_neg (by decide)] at es
      refine if_false_of rfl ?_
      obtain ⟨dx, a, h1, h2⟩ := L
      refine ⟨_, rfl, _, rfl, x, C, dx, _, rfl, h1, T.cl, T.nP, (by show 2 < 1000; decide), ?_⟩
      have nax : a ≠ x := ne_of h2 h1 (by intro z; cases z)
      refine ⟨(by show 1 ≤ sizeLine; decide), fun q hq => ?_⟩
      have nqx : q ≠ x := by
        intro e
        subst e
        rw [upd_same] at hq
        cases hq
      rw [upd_ne nqx] at hq
      have hxx : (upd (upd H x (.ins C dx (putF "prime" (.int (p : Int)) (lF a d.p)))) q (.lst [.int 0])) x = some (.ins C dx (lF a p)) := by
        rw [upd_ne (Ne.symm nqx), upd_same]
        exact congrArg (fun z => some (HO.ins C dx z)) (lF_put_prime a d.p p)
      refine h _ q ?_ (fresh_old hxx h1) ?_ hq ?_
      · rw [es]
        refine ⟨dx, a, hxx, ?_⟩
        · have naq : a ≠ q := by
            intro e
            subst e
            rw [h2] at hq
            cases hq
          rw [upd_ne naq, upd_ne nax]
          exact h2
      · intro b o e hb
        have nbq : b ≠ q := by
          intro e1
          subst e1
          rw [e] at hq
          cases hq
        rw [upd_ne nbq, upd_ne hb]
        exact e
      · rw [es]
        exact upd_same
/-! ### takes_numbers -/
/-- what the test ahead of it tells -/
theorem polyOf_none {ns : List Nat} (h : 5 < ns.length ∨ ∃ m ∈ ns, 2000 < m) : Na03.polyOf ns = none := by
  unfold Na03.polyOf
  refine if_pos ?_
  rcases h with h | ⟨m, hm, h⟩
  · exact .inl h
  · refine .inr ?_
    rw [← Bool.not_eq_true, List.all_eq_true]
    intro z
    have := z m hm
    simp at this
    omega
theorem polyOf_some {ns : List Nat} (h1 : ns.length ≤ 5) (h2 : ∀ m ∈ ns, m ≤ 2000) : Na03.polyOf ns = some (Na03.trim (ns.map Na03.whole)) := by
  unfold Na03.polyOf
  refine if_neg ?_
  rintro (z | z)
  · omega
  · have : ns.all (fun z => decide (z ≤ 2000)) = true := by
      rw [List.all_eq_true]
      intro m hm
      exact decide_eq_true (h2 m hm)
    rw [this] at z
    cases z
theorem ints_length (ns : List Nat) : (Na03.ints ns).length = ns.length := List.length_map _
theorem map_whole (ns : List Nat) : (Na03.ints ns).map fromHanded = ns.map Na03.whole := by
  unfold Na03.ints
  rw [List.map_map]
  refine List.map_congr_left fun z _ => ?_
  exact (whole_eq z).symm
theorem mem_ints {ns : List Nat} {m : Int} : m ∈ Na03.ints ns ↔ ∃ z ∈ ns, m = (z : Int) := by
  unfold Na03.ints
  rw [List.mem_map]
  constructor
  · rintro ⟨z, hz, e⟩
    exact ⟨z, hz, e.symm⟩
  · rintro ⟨z, hz, e⟩
    exact ⟨z, hz, e.symm⟩
theorem rMaxDef_by {H : Hp} {g : Addr} {ns : List Nat} {Q : VK} (hS : SqL K H g ((Na03.ints ns).map V.int)) (h : ∀ m : Int, (2000 < m ↔ ∃ z ∈ ns, 2000 < z) → Q (.int m) H) : rMaxDef K [.ref g] [.int 0] H Q := by
  refine ⟨g, Na03.ints ns, 0, rfl, rfl, hS, fun e => h 0 ⟨fun z => by omega, ?_⟩, fun m hm hle => h m ⟨fun z => ?_, ?_⟩⟩
  · rintro ⟨z, hz, _⟩
    have : (z : Int) ∈ Na03.ints ns := mem_ints.mpr ⟨z, hz, rfl⟩
    rw [e] at this
    cases this
  · obtain ⟨y, hy, rfl⟩ := mem_ints.mp hm
    exact ⟨y, hy, by omega⟩
  · rintro ⟨z, hz, h2⟩
    have := hle _ (mem_ints.mpr ⟨z, hz, rfl⟩)
    omega
abbrev sNu : Stmt := top 52
def spNu (K : PySem.W.Frag) : Sp := fun vs H Q _ => ∃ (g : Addr) (ns : List Nat), vs = [.ref g] ∧ SqL K H g ((Na03.ints ns).map V.int) ∧ Q (.bl (Na03.polyOf ns).isSome) H
theorem scNu : FnScope ["handed"] ["handed"] (defScope sNu) := ⟨rfl, rfl, rfl, by decide +kernel, rfl, by decide +kernel, by decide +kernel⟩
theorem ok_Nu {f : Addr} {fd : FuncData} (F : Fun K "takes_numbers" "takes_numbers" sNu f fd) (O : Own mg) (cM : ∃ t, mg "MOST_NUMBERS" = some (.int 5 t)) (cL : ∃ t, mg "LARGEST_NUMBER" = some (.int 2000 t)) : FnOk P w K mg base CX0 1 f fd ["handed"] (spNu K) := by
  obtain ⟨t1, cM⟩ := cM
  obtain ⟨t2, cL⟩ := cL
  refine F.ok scNu (fun vs H Q E h => ?_) (fun cdv A outer s H vs Q E hr h => ?_)
  · obtain ⟨g, ns, rfl, _⟩ := h
    rfl
  · obtain ⟨g, ns, rfl, hS, h⟩ := h
    refine ⟨_, pss_one (ps_ret (pe_and (pe_cmpR op_le (pe_callB call_len_seq (by rfl) O.len PySem.boot_len (pa_cons (pv 0) pa_nil)) (pe_glob (v := .int 5) rfl cM ⟨_, rfl⟩) (nomark _))
      (pe_one (pe_cmpR op_le (pe_callBK (cr_maxDef rfl hr) (by rfl) O.max (by decide +kernel) (pa_cons (pv 0) pa_nil) (pk_cons pe_int pk_nil)) (pe_glob (v := .int 2000) rfl cL ⟨_, rfl⟩) (nomark _))))), ?_⟩
    refine ⟨_, rfl, g, _, rfl, .inl hS, _, _, rfl, rfl, _, rfl, ?_⟩
    rw [List.length_map, ints_length]
    by_cases c1 : (ns.length : Int) ≤ 5
    · refine if_true_of (decide_eq_true c1) ?_
      refine ⟨_, rfl, ?_⟩
      dsimp only [tTest, tOp, tCKw, tCons, tVar, tNil, tC]
      refine rMaxDef_by hS fun m hm => ?_
      refine ⟨_, _, rfl, rfl, ?_⟩
      show Q (.bl (decide (m ≤ 2000))) H
      by_cases c2 : m ≤ 2000
      · have hle : ∀ m ∈ ns, m ≤ 2000 := fun z hz => by
          rcases Nat.lt_or_ge 2000 z with l | l
          · have := hm.mpr ⟨z, hz, l⟩
            omega
          · exact l
        rw [polyOf_some (by omega) hle] at h
        rw [decide_eq_true c2]
        exact h
      · rw [polyOf_none (.inr (hm.mp (by omega)))] at h
        rw [decide_eq_false c2]
        exact h
    · refine if_false_of (decide_eq_false c1) ?_
      rw [polyOf_none (.inl (by omega))] at h
      exact h
/-! ### polynomial_from -/
abbrev sPF : Stmt := top 53
def spPF (K : PySem.W.Frag) : Sp := fun vs H Q _ => ∃ (g : Addr) (ns : List Nat), vs = [.ref g] ∧ SqL K H g ((Na03.ints ns).map V.int) ∧ ns.length ≤ 1000 ∧ Gives (Na03.trim (ns.map Na03.whole)) H Q
theorem scPF : FnScope ["handed", "number"] ["handed"] (defScope sPF) := ⟨rfl, rfl, rfl, by decide +kernel, rfl, by decide +kernel, by decide +kernel⟩
theorem ok_PF {f : Addr} {fd : FuncData} (F : Fun K "polynomial_from" "polynomial_from" sPF f fd) (G1 : Has P w K mg base 1 "from_handed" ["handed"] spFH) (G2 : Has P w K mg base 1 "without_last_zeros" ["numbers"] (spWZ K)) :
    FnOk P w K mg base CX0 2 f fd ["handed"] (spPF K) := by
  obtain ⟨f1, fd1, G1, m1, k1, b1⟩ := G1
  obtain ⟨f2, fd2, G2, m2, k2, b2⟩ := G2
  refine F.ok scPF (fun vs H Q E h => ?_) (fun cdv A outer s H vs Q E hr h => ?_)
  · obtain ⟨g, ns, rfl, _⟩ := h
    rfl
  · obtain ⟨g, ns, rfl, hS, hl, h⟩ := h
    refine ⟨_, pss_one (ps_ret (pe_call G2 hr rfl m2 k2 b2 .nil pass0 (pa_cons (pe_lc (own := [("number", 1)]) (g := gName 1) (tt := tYes) (by rfl) scPF.nd (pi_list (pv 0))
          (blkOk_by (own := [("number", 1)]) (N := ["handed", "number"]) (sc := defScope sPF) (by decide +kernel))
          (fun _ _ _ _ _ => pg_name (i := 1) scPF.nd rfl (Or.inl rfl)) (fun _ _ _ _ _ => pts_nil)
          (fun _ _ _ _ _ => pe_call G1 hr rfl m1 k1 b1 .nil pass0 (pa_cons (pv 1) pa_nil))) pa_nil))), ?_⟩
    refine ⟨_, rfl, g, rfl, ⟨_, hS⟩, fun D hD => ?_⟩
    refine lc_list (K := K) (a := g) (xs := (Na03.ints ns).map V.int) (fun i H' => H' = upd H D (.lst ((((Na03.ints ns).take i).map fromHanded).map V.int))) rfl ?_ ?_ ?_
    · rintro i H' _ rfl
      exact (Same.new hD _).seq hS
    · rintro i y H' hi rfl
      rw [List.getElem?_map] at hi
      obtain ⟨z, hz, rfl⟩ := Option.map_eq_some_iff.mp hi
      refine ⟨rfl, _, rfl, z, rfl, _, upd_same, ?_, ?_⟩
      · rw [List.length_map, List.length_map, List.length_take, ints_length]
        have h5 : sizeLine = 16777216 := rfl
        omega
      · rw [upd_upd, take_more hz, List.map_append, List.map_append]
        rfl
    · rintro H' rfl
      rw [List.length_map, List.take_length, map_whole]
      have s1 := Same.new hD (.lst ((ns.map Na03.whole).map V.int))
      refine ⟨D, _, rfl, SqL.of upd_same, ?_, fun q hq => ?_⟩
      · rw [List.length_map]
        have h5 : sizeLine = 16777216 := rfl
        omega
      · exact h q _ (s1.trans (Same.new hq _)) (s1.free hq) upd_same
/-! ### the new polynomial, stored and shown -/
theorem Done.stored {x dx a q r : Addr} {d : Na03.Desk} {c : Na03.Call} {f' : List Int} {H H1 H3 : Hp} {Q : VK} (h : Done C x d c H Q) (h1 : H x = some (.ins C dx (lF a d.p))) (s : Same H H1) (hq : H q = none) (hq1 : H1 q = some (.lst (f'.map V.int)))
    (e : Na03.step d c = ({ d with f := f' }, Na03.shown f')) (s3 : Same (upd H1 x (.ins C dx (putF "numbers" (.ref q) (lF a d.p)))) H3) (hr3 : (upd H1 x (.ins C dx (putF "numbers" (.ref q) (lF a d.p)))) r = none)
    (hr4 : H3 r = some (.lst ((((f'.length : Nat) : Int) :: f').map V.int))) : Q (.ref r) H3 := by
  have nqx : q ≠ x := Ne.symm (Same.ne (H' := H1) h1 hq)
  have nrx : r ≠ x := by
    intro e
    subst e
    rw [upd_same] at hr3
    cases hr3
  rw [upd_ne nrx] at hr3
  have hxx : H3 x = some (.ins C dx (lF q d.p)) := s3 _ _ upd_same
  refine h H3 r ?_ (fresh_new hxx hq) ?_ (s.free hr3) ?_
  · rw [e]
    exact ⟨dx, q, hxx, s3 _ _ ((upd_ne nqx).trans hq1)⟩
  · intro b o eb hb
    refine s3 _ _ ?_
    rw [upd_ne hb]
    exact s _ _ eb
  · rw [e]
    exact hr4
/-! ### Line.take_polynomial -/
abbrev sPl : Stmt := inClass sLi 2
def spPl (K : PySem.W.Frag) (C : Addr) : Sp := fun vs H Q _ => ∃ (x g : Addr) (d : Na03.Desk) (ns : List Nat), vs = [.ref x, .ref g] ∧ LineAt C H x d ∧ SqL K H g ((Na03.ints ns).map V.int) ∧ Done C x d (.poly ns) H Q
theorem scPl : FnScope ["self", "handed"] ["self", "handed"] (defScope sPl) := ⟨rfl, rfl, rfl, by decide +kernel, rfl, by decide +kernel, by decide +kernel⟩
theorem ok_Pl {f : Addr} {fd : FuncData} (F : Fun K "take_polynomial" "Line.take_polynomial" sPl f fd) (T : Txt K mg C)
    (G1 : Has P w K mg base 1 "takes_numbers" ["handed"] (spNu K)) (G2 : Has P w K mg base 2 "polynomial_from" ["handed"] (spPF K)) (G3 : Has P w K mg base 1 "counted" ["numbers"] (spCo K)) :
    FnOk P w K mg base CX0 3 f fd ["self", "handed"] (spPl K C) := by
  obtain ⟨f1, fd1, G1, m1, k1, b1⟩ := G1
  obtain ⟨f2, fd2, G2, m2, k2, b2⟩ := G2
  obtain ⟨f3, fd3, G3, m3, k3, b3⟩ := G3
  refine F.ok scPl (fun vs H Q E h => ?_) (fun cdv A outer s H vs Q E hr h => ?_)
  · obtain ⟨x, g, d, ns, rfl, _⟩ := h
    rfl
  · obtain ⟨x, g, d, ns, rfl, L, hS, h⟩ := h
    refine ⟨_, pss_cons (ps_if (pt_not (pt_val (pe_call G1 (hr.mono (by decide)) rfl m1 k1 b1 .nil pass0 (pa_cons (pv 1) pa_nil)))) (pss_one (ps_ret (pe_lst (pa_cons (pe_un un_neg pe_int) pa_nil)))) pss_nil)
      (pss_cons (ps_fld (pv 0) (pe_call G2 hr rfl m2 k2 b2 .nil pass0 (pa_cons (pv 1) pa_nil)) rfl)
      (pss_one (ps_ret (pe_call G3 (hr.mono (by decide)) rfl m3 k3 b3 .nil pass0 (pa_cons (pe_fld (pv 0) rfl) pa_nil))))), ?_⟩
    have es : Na03.step d (.poly ns) = (match Na03.polyOf ns with | none => (d, [-1]) | some f => ({ d with f := f }, Na03.shown f)) := rfl
    refine ⟨_, rfl, g, ns, rfl, hS, _, rfl, ?_⟩
    cases e : Na03.polyOf ns with
    | none =>
      rw [e] at es
      refine if_true_of rfl ?_
      exact ⟨_, rfl, (by show 1 ≤ sizeLine; decide), fun q hq => h.same L (by rw [es]) (l := [-1]) (by rw [es]) (Same.new hq _) hq upd_same⟩
    | some g' =>
      rw [e] at es
      obtain ⟨rfl, hl, _⟩ := polyOf_spec e
      refine if_false_of rfl ?_
      obtain ⟨dx, a, h1, h2⟩ := L
      refine ⟨_, rfl, g, ns, rfl, hS, by omega, fun q H1 s1 hq hq1 => ?_⟩
      have nqx : q ≠ x := Ne.symm (Same.ne (H' := H1) h1 hq)
      refine ⟨_, rfl, x, C, dx, _, rfl, s1 _ _ h1, T.cl, T.nN, (by show 2 < 1000; decide), ?_⟩
      refine ⟨_, rfl, x, C, dx, _, _, rfl, upd_same, T.cl, T.nN, lk_here, q, _, rfl, (upd_ne nqx).trans hq1, ?_, fun r H3 s3 hr3 hr4 => h.stored h1 s1 hq hq1 es s3 hr3 hr4⟩
      have := trim_length_le (ns.map Na03.whole)
      rw [List.length_map] at this
      omega
/-! ### Line.take_product -/
abbrev sTi : Stmt := inClass sLi 3
def spTi (K : PySem.W.Frag) (C : Addr) : Sp := fun vs H Q _ => ∃ (x g : Addr) (d : Na03.Desk) (n : Nat) (ns : List Nat), vs = [.ref x, .ref g] ∧ LineAt C H x d ∧ Good d n ∧ SqL K H g ((Na03.ints ns).map V.int) ∧ Done C x d (.times ns) H Q
theorem scTi : FnScope ["self", "handed", "factor"] ["self", "handed"] (defScope sTi) := ⟨rfl, rfl, rfl, by decide +kernel, rfl, by decide +kernel, by decide +kernel⟩
theorem ok_Ti {f : Addr} {fd : FuncData} (F : Fun K "take_product" "Line.take_product" sTi f fd) (T : Txt K mg C) (cM : ∃ t, mg "MOST_NUMBERS_OF_PRODUCT" = some (.int 9 t))
    (G1 : Has P w K mg base 1 "takes_numbers" ["handed"] (spNu K)) (G2 : Has P w K mg base 2 "polynomial_from" ["handed"] (spPF K)) (G3 : Has P w K mg base 1 "counted" ["numbers"] (spCo K)) (G4 : Has P w K mg base 1 "product" ["one", "other"] (spPr K)) :
    FnOk P w K mg base CX0 3 f fd ["self", "handed"] (spTi K C) := by
  obtain ⟨f1, fd1, G1, m1, k1, b1⟩ := G1
  obtain ⟨f2, fd2, G2, m2, k2, b2⟩ := G2
  obtain ⟨f3, fd3, G3, m3, k3, b3⟩ := G3
  obtain ⟨f4, fd4, G4, m4, k4, b4⟩ := G4
  obtain ⟨t1, cM⟩ := cM
  refine F.ok scTi (fun vs H Q E h => ?_) (fun cdv A outer s H vs Q E hr h => ?_)
  · obtain ⟨x, g, d, n, ns, rfl, _⟩ := h
    rfl
  · obtain ⟨x, g, d, n, ns, rfl, L, hgd, hS, h⟩ := h
    refine ⟨_, pss_cons (ps_if (pt_not (pt_val (pe_call G1 (hr.mono (by decide)) rfl m1 k1 b1 .nil pass0 (pa_cons (pv 1) pa_nil)))) (pss_one (ps_ret (pe_lst (pa_cons (pe_un un_neg pe_int) pa_nil)))) pss_nil)
      (pss_cons (ps_set (i := 2) scTi.nd rfl (Or.inl rfl) (pe_call G2 hr rfl m2 k2 b2 .nil pass0 (pa_cons (pv 1) pa_nil)))
      (pss_cons (ps_if (pt_cmpR op_gt (pe_op op_sub (pe_op op_add (pe_callB call_len_seq (by rfl) T.own.len PySem.boot_len (pa_cons (pe_fld (pv 0) rfl) pa_nil)) (pe_callB call_len_seq (by rfl) T.own.len PySem.boot_len (pa_cons (pv 2) pa_nil))) pe_int) (pe_glob (v := .int 9) rfl cM ⟨_, rfl⟩) (nomark _))
        (pss_one (ps_ret (pe_lst (pa_cons (pe_un un_neg pe_int) pa_nil)))) pss_nil)
      (pss_cons (ps_fld (pv 0) (pe_call G4 (hr.mono (by decide)) rfl m4 k4 b4 .nil pass0 (pa_cons (pe_fld (pv 0) rfl) (pa_cons (pv 2) pa_nil))) rfl)
      (pss_one (ps_ret (pe_call G3 (hr.mono (by decide)) rfl m3 k3 b3 .nil pass0 (pa_cons (pe_fld (pv 0) rfl) pa_nil))))))), ?_⟩
    have es : Na03.step d (.times ns) = (match Na03.polyOf ns with | none => (d, [-1]) | some g => if 9 < d.f.length + g.length - 1 then (d, [-5]) else ({ d with f := Na03.times d.f g }, Na03.shown (Na03.times d.f g))) := rfl
    refine ⟨_, rfl, g, ns, rfl, hS, _, rfl, ?_⟩
    cases e : Na03.polyOf ns with
    | none =>
      rw [e] at es
      refine if_true_of rfl ?_
      exact ⟨_, rfl, (by show 1 ≤ sizeLine; decide), fun q hq => h.same L (by rw [es]) (l := [-1]) (by rw [es]) (Same.new hq _) hq upd_same⟩
    | some g' =>
      rw [e] at es
      have hsp := polyOf_spec e
      have htg : Tight g' := by
        rw [hsp.1]
        exact trim_tight _
      have hlg : g'.length ≤ 5 := by
        rw [hsp.1]
        have := trim_length_le (ns.map Na03.whole)
        rw [List.length_map] at this
        omega
      have hcg : ∀ c ∈ g', -(2 ^ 64) < c ∧ c < 2 ^ 64 := fun c hc => by
        rw [hsp.1] at hc
        obtain ⟨z, hz1, rfl⟩ := List.mem_map.mp (mem_trim hc)
        have := whole_small (hsp.2.2 z hz1)
        omega
      have hf9 := hgd.f.len
      refine if_false_of rfl ?_
      have L' := L
      obtain ⟨dx, a, h1, h2⟩ := L'
      refine ⟨_, rfl, g, ns, rfl, hS, by omega, fun q H1 s1 hq hq1 => ?_⟩
      rw [← hsp.1] at hq1
      refine ⟨_, rfl, x, C, dx, _, _, rfl, s1 _ _ h1, T.cl, T.nN, lF_numbers _ _, a, _, rfl, .inl (SqL.of (s1 _ _ h2)), _, rfl, q, _, rfl, .inl (SqL.of hq1), _, _, rfl, rfl, _, _, rfl, rfl, _, _, rfl, rfl, _, rfl, ?_⟩
      rw [List.length_map, List.length_map]
      by_cases c : 9 < d.f.length + g'.length - 1
      · refine if_true_of (decide_eq_true (by omega)) ?_
        have es2 : Na03.step d (.times ns) = (d, [-5]) := es.trans (if_pos c)
        exact ⟨_, rfl, (by show 1 ≤ sizeLine; decide), fun r hr0 => h.same L (by rw [es2]) (l := [-5]) (by rw [es2]) (s1.trans (Same.new hr0 _)) (s1.free hr0) upd_same⟩
      · refine if_false_of (decide_eq_false (by omega)) ?_
        have es2 : Na03.step d (.times ns) = ({ d with f := Na03.times d.f g' }, Na03.shown (Na03.times d.f g')) := es.trans (if_neg c)
        refine ⟨_, rfl, x, C, dx, _, _, rfl, s1 _ _ h1, T.cl, T.nN, lF_numbers _ _, _, rfl, a, q, d.f, g', rfl, SqL.of (s1 _ _ h2), SqL.of hq1, by omega, by omega, hcg, fun t H2 s2 ht ht2 => ?_⟩
        have s12 := s1.trans s2
        have htH : H t = none := s1.free ht
        rw [prodL_times hgd.f.tight htg] at ht2
        have ntx : t ≠ x := Ne.symm (Same.ne (H' := H2) h1 htH)
        refine ⟨_, rfl, x, C, dx, _, rfl, s12 _ _ h1, T.cl, T.nN, (by show 2 < 1000; decide), ?_⟩
        refine ⟨_, rfl, x, C, dx, _, _, rfl, upd_same, T.cl, T.nN, lk_here, t, _, rfl, (upd_ne ntx).trans ht2, ?_, fun r H3 s3 hr3 hr4 => h.stored h1 s12 htH ht2 es2 s3 hr3 hr4⟩
        have := times_len_le d.f g'
        omega
/-! ### Line.take_moved -/
abbrev sMo : Stmt := inClass sLi 4
def spMo (K : PySem.W.Frag) (C : Addr) : Sp := fun vs H Q _ => ∃ (x : Addr) (d : Na03.Desk) (n z : Nat), vs = [.ref x, .int (z : Int)] ∧ LineAt C H x d ∧ Good d n ∧ Done C x d (.move z) H Q
theorem scMo : FnScope ["self", "handed"] ["self", "handed"] (defScope sMo) := ⟨rfl, rfl, rfl, by decide +kernel, rfl, by decide +kernel, by decide +kernel⟩
theorem ok_Mo {f : Addr} {fd : FuncData} (F : Fun K "take_moved" "Line.take_moved" sMo f fd) (T : Txt K mg C) (cM : ∃ t, mg "LARGEST_MOVE" = some (.int 200 t))
    (G1 : Has P w K mg base 1 "from_handed" ["handed"] spFH) (G2 : Has P w K mg base 2 "moved" ["numbers", "z"] (spMv K)) (G3 : Has P w K mg base 1 "counted" ["numbers"] (spCo K)) :
    FnOk P w K mg base CX0 3 f fd ["self", "handed"] (spMo K C) := by
  obtain ⟨f1, fd1, G1, m1, k1, b1⟩ := G1
  obtain ⟨f2, fd2, G2, m2, k2, b2⟩ := G2
  obtain ⟨f3, fd3, G3, m3, k3, b3⟩ := G3
  obtain ⟨t1, cM⟩ := cM
  refine F.ok scMo (fun vs H Q E h => ?_) (fun cdv A outer s H vs Q E hr h => ?_)
  · obtain ⟨x, d, n, z, rfl, _⟩ := h
    rfl
  · obtain ⟨x, d, n, z, rfl, L, hgd, h⟩ := h
    refine ⟨_, pss_cons (ps_if (pt_cmpR op_gt (pv 1) (pe_glob (v := .int 200) rfl cM ⟨_, rfl⟩) (nomark _)) (pss_one (ps_ret (pe_lst (pa_cons (pe_un un_neg pe_int) pa_nil)))) pss_nil)
      (pss_cons (ps_fld (pv 0) (pe_call G2 hr rfl m2 k2 b2 .nil pass0 (pa_cons (pe_fld (pv 0) rfl) (pa_cons (pe_call G1 (hr.mono (by decide)) rfl m1 k1 b1 .nil pass0 (pa_cons (pv 1) pa_nil)) pa_nil))) rfl)
      (pss_one (ps_ret (pe_call G3 (hr.mono (by decide)) rfl m3 k3 b3 .nil pass0 (pa_cons (pe_fld (pv 0) rfl) pa_nil))))), ?_⟩
    have es : Na03.step d (.move z) = if 200 < z then (d, [-1]) else ({ d with f := Na03.moved d.f (Na03.whole z) }, Na03.shown (Na03.moved d.f (Na03.whole z))) := rfl
    refine ⟨_, rfl, _, _, rfl, rfl, _, rfl, ?_⟩
    by_cases c : 200 < z
    · rw [if_pos c] at es
      refine if_true_of (decide_eq_true (by omega)) ?_
      exact ⟨_, rfl, (by show 1 ≤ sizeLine; decide), fun q hq => h.same L (by rw [es]) (l := [-1]) (by rw [es]) (Same.new hq _) hq upd_same⟩
    · rw [if_neg c] at es
      refine if_false_of (decide_eq_false (by omega)) ?_
      obtain ⟨dx, a, h1, h2⟩ := L
      have hw : -(2 ^ 64) < Na03.whole z ∧ Na03.whole z < 2 ^ 64 := by
        unfold Na03.whole
        split <;> omega
      have hf9 := hgd.f.len
      refine ⟨_, rfl, x, C, dx, _, _, rfl, h1, T.cl, T.nN, lF_numbers _ _, _, rfl, (z : Int), rfl, ?_⟩
      rw [← whole_eq]
      refine ⟨a, d.f, Na03.whole z, rfl, SqL.of h2, by omega, hgd.f.tight, hw, fun q H1 s1 hq hq1 => ?_⟩
      have nqx : q ≠ x := Ne.symm (Same.ne (H' := H1) h1 hq)
      refine ⟨_, rfl, x, C, dx, _, rfl, s1 _ _ h1, T.cl, T.nN, (by show 2 < 1000; decide), ?_⟩
      refine ⟨_, rfl, x, C, dx, _, _, rfl, upd_same, T.cl, T.nN, lk_here, q, _, rfl, (upd_ne nqx).trans hq1, ?_, fun r H3 s3 hr3 hr4 => h.stored h1 s1 hq hq1 es s3 hr3 hr4⟩
      rw [moved_len hgd.f.tight]
      omega
end
end LR
set_option Elab.async false
set_option maxRecDepth 100000
set_option maxHeartbeats 2000000
set_option linter.unusedVariables false
namespace LR
open PySem PySem.Spec PyProof.Rows L2
/-- a method of the class at C, by its name -/
structure HasM (P : Program) (w : World) (K : PySem.W.Frag) (mg : Str → Option Value) (base : Heap) (C : Addr) (k : Nat) (m : Str) (ps : List Str) (sp : Sp) : Prop where
  ex : ∃ (f : Addr) (fd : FuncData), FnOk P w K mg base CX0 k f fd ps sp ∧ Meth K C m f ∧ Binds K fd ps []
theorem Done.gives {C x : Addr} {d : Na03.Desk} {c : Na03.Call} {H : Hp} {Q : VK} (h : Done C x d c H Q) (L : LineAt C H x d) (e1 : (Na03.step d c).1 = d) {l : List Int} (e2 : (Na03.step d c).2 = l) : Gives l H Q :=
  fun q H' s hq hq' => h.same L e1 e2 s hq hq'
theorem Good.p2 {d : Na03.Desk} {n : Nat} (h : Good d n) : 2 ≤ d.p ∧ d.p < 1000 := by
  rcases h.p with e | e | e | e <;> rw [e] <;> decide
section
variable {P : Program} {w : World} {K : PySem.W.Frag} {mg : Str → Option Value} {base : Heap} {C : Addr}
/-! ### Line.tell_times_divided -/
abbrev sTT : Stmt := inClass sLi 6
def spTT (C : Addr) : Sp := fun vs H Q _ => ∃ (x : Addr) (d : Na03.Desk) (n : Nat) (z : Int), vs = [.ref x, .int z] ∧ LineAt C H x d ∧ Good d n ∧ z.natAbs < 2 ^ 1000 ∧ Gives (if z = 0 then [-3] else [((Na03.val d.p 1000 z : Nat) : Int)]) H Q
theorem scTT : FnScope ["self", "number"] ["self", "number"] (defScope sTT) := ⟨rfl, rfl, rfl, by decide +kernel, rfl, by decide +kernel, by decide +kernel⟩
theorem ok_TT {f : Addr} {fd : FuncData} (F : Fun K "tell_times_divided" "Line.tell_times_divided" sTT f fd) (T : Txt K mg C) (G : Has P w K mg base 1 "times_divided" ["number", "prime"] spTD) : FnOk P w K mg base CX0 2 f fd ["self", "number"] (spTT C) := by
  obtain ⟨g, gd, G, m1, k1, b1⟩ := G
  refine F.ok scTT (fun vs H Q E h => ?_) (fun cdv A outer s H vs Q E hr h => ?_)
  · obtain ⟨x, d, n, z, rfl, _⟩ := h
    rfl
  · obtain ⟨x, d, n, z, rfl, ⟨dx, a, h1, h2⟩, hg, hz, h⟩ := h
    refine ⟨_, pss_cons (ps_if (pt_cmpR op_eq (pv 1) pe_int (nomark _)) (pss_one (ps_ret (pe_lst (pa_cons (pe_un un_neg pe_int) pa_nil)))) pss_nil)
      (pss_one (ps_ret (pe_lst (pa_cons (pe_call G hr rfl m1 k1 b1 .nil pass0 (pa_cons (pv 1) (pa_cons (pe_fld (pv 0) rfl) pa_nil))) pa_nil)))), ?_⟩
    refine ⟨_, rfl, rfl, _, rfl, ?_⟩
    by_cases c : z = 0
    · rw [if_pos c] at h
      refine if_true_of (decide_eq_true (congrArg V.int c)) ?_
      exact ⟨_, rfl, (by show 1 ≤ sizeLine; decide), fun q hq => h q _ (Same.new hq _) hq upd_same⟩
    · rw [if_neg c] at h
      refine if_false_of (decide_eq_false fun e => c (V.int.inj e)) ?_
      refine ⟨_, rfl, _, rfl, x, C, dx, _, _, rfl, h1, T.cl, T.nP, lF_prime _ _, z, d.p, rfl, c, hz, hg.p2.1, hg.p2.2, (by show 1 ≤ sizeLine; decide), fun q hq => ?_⟩
      exact h q _ (Same.new hq _) hq upd_same
/-! ### Line.takes_power -/
abbrev sTk : Stmt := inClass sLi 7
def spTk (C : Addr) : Sp := fun vs H Q _ => ∃ (x : Addr) (d : Na03.Desk) (n k : Nat), vs = [.ref x, .int (k : Int)] ∧ LineAt C H x d ∧ Good d n ∧ Q (.bl (Na03.power d k).isSome) H
theorem scTk : FnScope ["self", "k"] ["self", "k"] (defScope sTk) := ⟨rfl, rfl, rfl, by decide +kernel, rfl, by decide +kernel, by decide +kernel⟩
theorem power_no {d : Na03.Desk} {k : Nat} (h : k = 0 ∨ 14 < k ∨ 5000 < d.p ^ k) : Na03.power d k = none := if_pos h
theorem power_yes {d : Na03.Desk} {k : Nat} (h1 : 1 ≤ k) (h2 : k ≤ 14) (h3 : d.p ^ k ≤ 5000) : Na03.power d k = some (d.p ^ k) := if_neg (by omega)
theorem power_some {d : Na03.Desk} {k : Nat} (h : (Na03.power d k).isSome = true) : 1 ≤ k ∧ k ≤ 14 ∧ d.p ^ k ≤ 5000 := by
  unfold Na03.power at h
  split at h
  · cases h
  · omega
theorem ok_Tk {f : Addr} {fd : FuncData} (F : Fun K "takes_power" "Line.takes_power" sTk f fd) (T : Txt K mg C) (cK : ∃ t, mg "LARGEST_K" = some (.int 14 t)) (cP : ∃ t, mg "LARGEST_POWER" = some (.int 5000 t)) (G : Has P w K mg base 1 "power_of" ["prime", "k"] spPO) : FnOk P w K mg base CX0 2 f fd ["self", "k"] (spTk C) := by
  obtain ⟨g, gd, G, m1, k1, b1⟩ := G
  obtain ⟨t1, cK⟩ := cK
  obtain ⟨t2, cP⟩ := cP
  refine F.ok scTk (fun vs H Q E h => ?_) (fun cdv A outer s H vs Q E hr h => ?_)
  · obtain ⟨x, d, n, k, rfl, _⟩ := h
    rfl
  · obtain ⟨x, d, n, k, rfl, ⟨dx, a, h1, h2⟩, hg, h⟩ := h
    refine ⟨_, pss_one (ps_ret (pe_and (pe_chain op_le op_le pe_int (pv 1) (pe_glob (v := .int 14) rfl cK ⟨_, rfl⟩)) (pe_one (pe_cmpR op_le (pe_call G hr rfl m1 k1 b1 .nil pass0 (pa_cons (pe_fld (pv 0) rfl) (pa_cons (pv 1) pa_nil))) (pe_glob (v := .int 5000) rfl cP ⟨_, rfl⟩) (nomark _))))), ?_⟩
    refine ⟨_, rfl, _, _, rfl, rfl, _, rfl, ?_⟩
    by_cases c1 : (1 : Int) ≤ (k : Int)
    · refine if_true_of (decide_eq_true c1) ?_
      refine ⟨_, _, rfl, rfl, _, rfl, ?_⟩
      by_cases c2 : (k : Int) ≤ 14
      · refine if_true_of (decide_eq_true c2) ?_
        refine ⟨_, rfl, x, C, dx, _, _, rfl, h1, T.cl, T.nP, lF_prime _ _, _, rfl, d.p, k, rfl, hg.p2.2, by omega, _, _, rfl, rfl, ?_⟩
        by_cases c3 : ((d.p ^ k : Nat) : Int) ≤ 5000
        · rw [power_yes (by omega) (by omega) (by omega)] at h
          show Q (.bl (decide (((d.p ^ k : Nat) : Int) ≤ 5000))) H
          rw [decide_eq_true c3]
          exact h
        · rw [power_no (.inr (.inr (by omega)))] at h
          show Q (.bl (decide (((d.p ^ k : Nat) : Int) ≤ 5000))) H
          rw [decide_eq_false c3]
          exact h
      · refine if_false_of (decide_eq_false c2) ?_
        rw [power_no (.inr (.inl (by omega)))] at h
        exact h
    · refine if_false_of (decide_eq_false c1) ?_
      refine ⟨_, rfl, if_false_of rfl ?_⟩
      rw [power_no (.inl (by omega))] at h
      exact h
/-! ### Line.tell_roots -/
abbrev sTR : Stmt := inClass sLi 8
def spTR (C : Addr) : Sp := fun vs H Q _ => ∃ (x : Addr) (d : Na03.Desk) (n k : Nat), vs = [.ref x, .int (k : Int)] ∧ LineAt C H x d ∧ Good d n ∧ Gives (Na03.step d (.roots k)).2 H Q
theorem scTR : FnScope ["self", "k"] ["self", "k"] (defScope sTR) := ⟨rfl, rfl, rfl, by decide +kernel, rfl, by decide +kernel, by decide +kernel⟩
theorem told_eq (l : List Nat) : Na03.told l = ((Na03.ints l).length : Int) :: Na03.ints l := by
  unfold Na03.told Na03.ints
  rw [List.map_cons, List.length_map]
theorem roots_small (f : List Int) {m : Nat} (h : m ≤ 5000) : (Na03.ints (Na03.roots f m)).length < 16777000 := by
  unfold Na03.ints Na03.roots
  rw [List.length_map]
  have := List.length_filter_le (fun x : Nat => Na03.value f (x : Int) % (m : Int) == 0) (List.range m)
  rw [List.length_range] at this
  omega
theorem ok_TR {f : Addr} {fd : FuncData} (F : Fun K "tell_roots" "Line.tell_roots" sTR f fd) (T : Txt K mg C) (M : HasM P w K mg base C 2 "takes_power" ["self", "k"] (spTk C)) (G : Has P w K mg base 5 "roots_of_powers" ["numbers", "prime", "k"] (spRP K)) (G3 : Has P w K mg base 1 "counted" ["numbers"] (spCo K)) :
    FnOk P w K mg base CX0 6 f fd ["self", "k"] (spTR C) := by
  obtain ⟨g, gd, G, m1, k1, b1⟩ := G
  obtain ⟨f3, fd3, G3, m3, k3, b3⟩ := G3
  obtain ⟨f2, fd2, M, m2, b2⟩ := M
  refine F.ok scTR (fun vs H Q E h => ?_) (fun cdv A outer s H vs Q E hr h => ?_)
  · obtain ⟨x, d, n, k, rfl, _⟩ := h
    rfl
  · obtain ⟨x, d, n, k, rfl, ⟨dx, a, h1, h2⟩, hg, h⟩ := h
    refine ⟨_, pss_cons (ps_if (pt_not (pt_val (pe_meth (pv 0) T.cl m2 M (hr.mono (by decide)) b2 .nil pass0 (pa_cons (pv 1) pa_nil)))) (pss_one (ps_ret (pe_lst (pa_cons (pe_un un_neg pe_int) pa_nil)))) pss_nil)
      (pss_one (ps_ret (pe_call G3 (hr.mono (by decide)) rfl m3 k3 b3 .nil pass0 (pa_cons (pe_ix ix_list (pe_call G hr rfl m1 k1 b1 .nil pass0 (pa_cons (pe_fld (pv 0) rfl) (pa_cons (pe_fld (pv 0) rfl) (pa_cons (pv 1) pa_nil)))) (pe_un un_neg pe_int) (fun _ _ => rfl)) pa_nil)))), ?_⟩
    refine ⟨_, rfl, x, dx, _, rfl, h1, lF_no (by decide +kernel) (by decide +kernel) _ _, _, rfl, x, d, n, k, rfl, ⟨dx, a, h1, h2⟩, hg, _, rfl, ?_⟩
    have es : (Na03.step d (.roots k)).2 = (match Na03.power d k with | none => [-1] | some m => Na03.told (Na03.roots d.f m)) := rfl
    cases e : Na03.power d k with
    | none =>
      rw [e] at es
      rw [es] at h
      refine if_true_of rfl ?_
      exact ⟨_, rfl, (by show 1 ≤ sizeLine; decide), fun q hq => h q _ (Same.new hq _) hq upd_same⟩
    | some m =>
      have hs := power_some (d := d) (k := k) (by rw [e]; rfl)
      rw [power_yes hs.1 hs.2.1 hs.2.2] at e
      obtain rfl := Option.some.inj e
      rw [power_yes hs.1 hs.2.1 hs.2.2] at es
      refine if_false_of rfl ?_
      have hp := hg.p2
      refine ⟨_, rfl, x, C, dx, _, _, rfl, h1, T.cl, T.nN, lF_numbers _ _, _, rfl, x, C, dx, _, _, rfl, h1, T.cl, T.nP, lF_prime _ _, _, rfl, a, d.f, d.p, k, rfl, SqL.of h2, by omega, by omega, by omega, hs.2.2, fun l H' cs s1 hl hl1 hlen hcs => ?_⟩
      obtain ⟨k', rfl⟩ : ∃ k', k = k' + 1 := ⟨k - 1, by omega⟩
      obtain ⟨c, hc⟩ : ∃ c, cs[k']? = some c := ⟨cs[k'], List.getElem?_eq_getElem (by omega)⟩
      have hcs' : cs = cs.take k' ++ [c] := by
        have := take_more hc
        rw [← hlen, List.take_length] at this
        exact this
      refine ⟨_, rfl, l, _, _, .ref c, rfl, rfl, SqL.of hl1, ?_, c, Na03.ints (Na03.roots d.f (d.p ^ (k' + 1))), rfl, hcs _ _ hc, roots_small _ hs.2.2, fun q H2 s2 hq hq2 => ?_⟩
      · rw [hcs', List.map_append]
        exact atI_last _ _
      · refine h q H2 (s1.trans s2) (s1.free hq) ?_
        rw [es]
        show H2 q = some (.lst ((Na03.told (Na03.roots d.f (d.p ^ (k' + 1)))).map V.int))
        rw [told_eq]
        exact hq2
/-! ### Line.tell_roots_gone_on_to -/
abbrev sTN : Stmt := inClass sLi 9
def spTN (C : Addr) : Sp := fun vs H Q _ => ∃ (x : Addr) (d : Na03.Desk) (n k y : Nat), vs = [.ref x, .int (k : Int), .int (y : Int)] ∧ LineAt C H x d ∧ Good d n ∧ Gives (Na03.step d (.next k y)).2 H Q
theorem scTN : FnScope ["self", "k", "x", "power"] ["self", "k", "x"] (defScope sTN) := ⟨rfl, rfl, rfl, by decide +kernel, rfl, by decide +kernel, by decide +kernel⟩
theorem next_small (f : List Int) (p m x : Nat) (h : p < 1000) : (Na03.ints (Na03.next f p m x)).length < 16777000 := by
  unfold Na03.ints Na03.next
  rw [List.length_map]
  have := List.length_filter_le (fun y : Nat => Na03.value f (y : Int) % ((m * p : Nat) : Int) == 0) ((List.range p).map fun d => x + d * m)
  rw [List.length_map, List.length_range] at this
  omega
theorem ok_TN {f : Addr} {fd : FuncData} (F : Fun K "tell_roots_gone_on_to" "Line.tell_roots_gone_on_to" sTN f fd) (T : Txt K mg C) (M : HasM P w K mg base C 2 "takes_power" ["self", "k"] (spTk C)) (G1 : Has P w K mg base 1 "power_of" ["prime", "k"] spPO)
    (G2 : Has P w K mg base 2 "is_root" ["numbers", "power", "x"] (spIR K)) (G3 : Has P w K mg base 1 "counted" ["numbers"] (spCo K)) (G4 : Has P w K mg base 3 "roots_gone_on_to" ["numbers", "prime", "power", "x"] (spRG K)) :
    FnOk P w K mg base CX0 4 f fd ["self", "k", "x"] (spTN C) := by
  obtain ⟨g1, gd1, G1, m1, k1, b1⟩ := G1
  obtain ⟨g2, gd2, G2, m2, k2, b2⟩ := G2
  obtain ⟨g3, gd3, G3, m3, k3, b3⟩ := G3
  obtain ⟨g4, gd4, G4, m4, k4, b4⟩ := G4
  obtain ⟨f5, fd5, M, m5, b5⟩ := M
  refine F.ok scTN (fun vs H Q E h => ?_) (fun cdv A outer s H vs Q E hr h => ?_)
  · obtain ⟨x, d, n, k, y, rfl, _⟩ := h
    rfl
  · obtain ⟨x, d, n, k, y, rfl, ⟨dx, a, h1, h2⟩, hg, h⟩ := h
    refine ⟨_, pss_cons (ps_if (pt_not (pt_val (pe_meth (pv 0) T.cl m5 M (hr.mono (by decide)) b5 .nil pass0 (pa_cons (pv 1) pa_nil)))) (pss_one (ps_ret (pe_lst (pa_cons (pe_un un_neg pe_int) pa_nil)))) pss_nil)
      (pss_cons (ps_set (i := 3) scTN.nd rfl (Or.inl rfl) (pe_call G1 (hr.mono (by decide)) rfl m1 k1 b1 .nil pass0 (pa_cons (pe_fld (pv 0) rfl) (pa_cons (pv 1) pa_nil))))
      (pss_cons (ps_if (pt_not (pt_val (pe_call G2 (hr.mono (by decide)) rfl m2 k2 b2 .nil pass0 (pa_cons (pe_fld (pv 0) rfl) (pa_cons (pv 3) (pa_cons (pv 2) pa_nil)))))) (pss_one (ps_ret (pe_lst (pa_cons (pe_un un_neg pe_int) pa_nil)))) pss_nil)
      (pss_one (ps_ret (pe_call G3 (hr.mono (by decide)) rfl m3 k3 b3 .nil pass0 (pa_cons (pe_call G4 hr rfl m4 k4 b4 .nil pass0 (pa_cons (pe_fld (pv 0) rfl) (pa_cons (pe_fld (pv 0) rfl) (pa_cons (pv 3) (pa_cons (pv 2) pa_nil))))) pa_nil)))))), ?_⟩
    refine ⟨_, rfl, x, dx, _, rfl, h1, lF_no (by decide +kernel) (by decide +kernel) _ _, _, rfl, x, d, n, k, rfl, ⟨dx, a, h1, h2⟩, hg, _, rfl, ?_⟩
    have es : (Na03.step d (.next k y)).2 = (match Na03.power d k with | none => [-1] | some m => if (Na03.roots d.f m).contains y = false then [-3] else Na03.told (Na03.next d.f d.p m y)) := rfl
    cases e : Na03.power d k with
    | none =>
      rw [e] at es
      rw [es] at h
      refine if_true_of rfl ?_
      exact ⟨_, rfl, (by show 1 ≤ sizeLine; decide), fun q hq => h q _ (Same.new hq _) hq upd_same⟩
    | some m =>
      have hs := power_some (d := d) (k := k) (by rw [e]; rfl)
      rw [e] at es
      rw [power_yes hs.1 hs.2.1 hs.2.2] at e
      have em := Option.some.inj e
      have hp := hg.p2
      have hm0 : 0 < d.p ^ k := Nat.pow_pos (by omega)
      refine if_false_of rfl ?_
      refine ⟨_, rfl, x, C, dx, _, _, rfl, h1, T.cl, T.nP, lF_prime _ _, _, rfl, d.p, k, rfl, hp.2, by omega, ?_⟩
      rw [em] at hm0 hs ⊢
      refine ⟨_, rfl, x, C, dx, _, _, rfl, h1, T.cl, T.nN, lF_numbers _ _, _, rfl, _, rfl, a, d.f, m, y, rfl, SqL.of h2, hm0, by omega, _, rfl, ?_⟩
      by_cases c : y ∈ Na03.roots d.f m
      · have c' := mem_roots.mp c
        have ec : (Na03.roots d.f m).contains y = true := List.contains_iff_mem.mpr c
        have es2 : (Na03.step d (.next k y)).2 = Na03.told (Na03.next d.f d.p m y) := by
          rw [es]
          show (if (Na03.roots d.f m).contains y = false then [-3] else _) = _
          rw [ec]
          rfl
        rw [decide_eq_true (show 0 ≤ (y : Int) ∧ (y : Int) < (m : Int) ∧ _ from ⟨by omega, by omega, c'.2⟩)]
        refine if_false_of rfl ?_
        refine ⟨_, rfl, x, C, dx, _, _, rfl, h1, T.cl, T.nN, lF_numbers _ _, _, rfl, x, C, dx, _, _, rfl, h1, T.cl, T.nP, lF_prime _ _, _, rfl, _, rfl, a, d.f, d.p, m, y, rfl, SqL.of h2, by omega, hp.2, hm0, by have := Nat.mul_le_mul hs.2.2 (Nat.le_of_lt hp.2); omega, c'.1, fun l hl => ?_⟩
        refine ⟨l, _, rfl, upd_same, next_small _ _ _ _ hp.2, fun q H2 s2 hq hq2 => ?_⟩
        have s1 := Same.new hl (.lst ((Na03.ints (Na03.next d.f d.p m y)).map V.int))
        refine h q H2 (s1.trans s2) (s1.free hq) ?_
        rw [es2, told_eq]
        exact hq2
      · have ec : (Na03.roots d.f m).contains y = false := by
          rw [← Bool.not_eq_true, List.contains_iff_mem]
          exact c
        have es2 : (Na03.step d (.next k y)).2 = [-3] := by
          rw [es]
          show (if (Na03.roots d.f m).contains y = false then [-3] else _) = _
          rw [ec]
          rfl
        rw [decide_eq_false (fun z => c (mem_roots.mpr ⟨by omega, z.2.2⟩))]
        refine if_true_of rfl ?_
        rw [es2] at h
        exact ⟨_, rfl, (by show 1 ≤ sizeLine; decide), fun q hq => h q _ (Same.new hq _) hq upd_same⟩
/-! ### Line.tell_counts -/
abbrev sTC : Stmt := inClass sLi 10
def spTC (C : Addr) : Sp := fun vs H Q _ => ∃ (x : Addr) (d : Na03.Desk) (n k : Nat), vs = [.ref x, .int (k : Int)] ∧ LineAt C H x d ∧ Good d n ∧ Gives (Na03.step d (.counts k)).2 H Q
theorem scTC : FnScope ["self", "k", "roots"] ["self", "k"] (defScope sTC) := ⟨rfl, rfl, rfl, by decide +kernel, rfl, by decide +kernel, by decide +kernel⟩
def rLenQ (K : PySem.W.Frag) : List V → Hp → VK → Prop := fun xs H Q => ∃ p ys, xs = [V.ref p] ∧ (SqL K H p ys ∨ SqT K H p ys) ∧ Q (.int (ys.length : Nat)) H
theorem ok_TC {f : Addr} {fd : FuncData} (F : Fun K "tell_counts" "Line.tell_counts" sTC f fd) (T : Txt K mg C) (M : HasM P w K mg base C 2 "takes_power" ["self", "k"] (spTk C)) (G : Has P w K mg base 5 "roots_of_powers" ["numbers", "prime", "k"] (spRP K)) :
    FnOk P w K mg base CX0 6 f fd ["self", "k"] (spTC C) := by
  obtain ⟨g, gd, G, m1, k1, b1⟩ := G
  obtain ⟨f2, fd2, M, m2, b2⟩ := M
  refine F.ok scTC (fun vs H Q E h => ?_) (fun cdv A outer s H vs Q E hr h => ?_)
  · obtain ⟨x, d, n, k, rfl, _⟩ := h
    rfl
  · obtain ⟨x, d, n, k, rfl, ⟨dx, a, h1, h2⟩, hg, h⟩ := h
    refine ⟨_, pss_cons (ps_if (pt_not (pt_val (pe_meth (pv 0) T.cl m2 M (hr.mono (by decide)) b2 .nil pass0 (pa_cons (pv 1) pa_nil)))) (pss_one (ps_ret (pe_lst (pa_cons (pe_un un_neg pe_int) pa_nil)))) pss_nil)
      (pss_one (ps_ret (pe_lc (own := [("roots", 2)]) (g := gName 2) (tt := tYes) (te := tCB (rLenQ K) (tCons (tVar 2) tNil)) (by rfl) scTC.nd (pi_list (pe_call G hr rfl m1 k1 b1 .nil pass0 (pa_cons (pe_fld (pv 0) rfl) (pa_cons (pe_fld (pv 0) rfl) (pa_cons (pv 1) pa_nil)))))
        (blkOk_by (own := [("roots", 2)]) (N := ["self", "k", "roots"]) (sc := defScope sTC) (by decide +kernel))
        (fun _ _ _ _ _ => pg_name (i := 2) scTC.nd rfl (Or.inl rfl)) (fun _ _ _ _ _ => pts_nil)
        (fun _ _ _ _ _ => pe_callB call_len_seq (by rfl) T.own.len PySem.boot_len (pa_cons (pv 2) pa_nil))))), ?_⟩
    refine ⟨_, rfl, x, dx, _, rfl, h1, lF_no (by decide +kernel) (by decide +kernel) _ _, _, rfl, x, d, n, k, rfl, ⟨dx, a, h1, h2⟩, hg, _, rfl, ?_⟩
    have es : (Na03.step d (.counts k)).2 = if (Na03.power d k).isNone = true then [-1] else Na03.ints ((List.range k).map fun i => (Na03.roots d.f (d.p ^ (i + 1))).length) := rfl
    cases e : Na03.power d k with
    | none =>
      rw [e, if_pos (by rfl)] at es
      rw [es] at h
      refine if_true_of rfl ?_
      exact ⟨_, rfl, (by show 1 ≤ sizeLine; decide), fun q hq => h q _ (Same.new hq _) hq upd_same⟩
    | some m =>
      have hs := power_some (d := d) (k := k) (by rw [e]; rfl)
      rw [e, if_neg (by simp)] at es
      rw [es] at h
      refine if_false_of rfl ?_
      have hp := hg.p2
      refine ⟨_, rfl, x, C, dx, _, _, rfl, h1, T.cl, T.nN, lF_numbers _ _, _, rfl, x, C, dx, _, _, rfl, h1, T.cl, T.nP, lF_prime _ _, _, rfl, a, d.f, d.p, k, rfl, SqL.of h2, by omega, by omega, by omega, hs.2.2, fun l H' cs s1 hl hl1 hlen hcs => ?_⟩
      refine ⟨l, rfl, ⟨_, SqL.of hl1⟩, fun D hD => ?_⟩
      have ncs : ∀ c o, H' c = some o → c ≠ D := fun c o e1 e2 => by
        subst e2
        rw [hD] at e1
        cases e1
      refine lc_list (K := K) (a := l) (xs := cs.map V.ref) (fun i H2 => H2 = upd H' D (.lst ((Na03.ints ((List.range i).map fun i => (Na03.roots d.f (d.p ^ (i + 1))).length)).map V.int))) rfl ?_ ?_ ?_
      · rintro i H2 _ rfl
        exact (Same.new hD _).seq (SqL.of hl1)
      · rintro i y H2 hi rfl
        rw [List.getElem?_map] at hi
        obtain ⟨c, hc, rfl⟩ := Option.map_eq_some_iff.mp hi
        have hil : i < cs.length := (List.getElem?_eq_some_iff.mp hc).1
        refine ⟨rfl, _, rfl, c, _, rfl, .inl (SqL.of ((upd_ne (ncs _ _ (hcs _ _ hc))).trans (hcs _ _ hc))), _, upd_same, ?_, ?_⟩
        · rw [List.length_map, ints_length, List.length_map, List.length_range]
          have h5 : sizeLine = 16777216 := rfl
          omega
        · rw [upd_upd, List.length_map, ints_length, List.range_succ, List.map_append]
          unfold Na03.ints
          rw [List.map_append, List.map_append]
          rfl
      · rintro H2 rfl
        rw [List.length_map, hlen]
        exact h D _ (s1.trans (Same.new hD _)) (s1.free hD) upd_same
end
end LR
set_option Elab.async false
set_option maxRecDepth 100000
set_option maxHeartbeats 2000000
set_option linter.unusedVariables false
namespace LR
open PySem PySem.Spec PyProof.Rows L2
section
variable {P : Program} {w : World} {K : PySem.W.Frag} {mg : Str → Option Value} {base : Heap} {C : Addr}
/-! ### Line.tell_lifted -/
abbrev sTL : Stmt := inClass sLi 11
def spTL (C : Addr) : Sp := fun vs H Q _ => ∃ (x : Addr) (d : Na03.Desk) (n y t : Nat), vs = [.ref x, .int (y : Int), .int (t : Int)] ∧ LineAt C H x d ∧ Good d n ∧ Gives (Na03.step d (.lift y t)).2 H Q
theorem scTL : FnScope ["self", "x", "times", "root"] ["self", "x", "times"] (defScope sTL) := ⟨rfl, rfl, rfl, by decide +kernel, rfl, by decide +kernel, by decide +kernel⟩
theorem ok_TL {f : Addr} {fd : FuncData} (F : Fun K "tell_lifted" "Line.tell_lifted" sTL f fd) (T : Txt K mg C) (cM : ∃ t, mg "MOST_TIMES_LIFTED" = some (.int 20 t)) (G1 : Has P w K mg base 3 "is_simple_root" ["numbers", "prime", "x"] (spIS K))
    (G2 : Has P w K mg base 4 "lifted" ["numbers", "prime", "x", "times"] (spLf K)) (G3 : Has P w K mg base 1 "digits_of" ["number", "prime", "many"] (spDg K)) :
    FnOk P w K mg base CX0 5 f fd ["self", "x", "times"] (spTL C) := by
  obtain ⟨g1, gd1, G1, m1, k1, b1⟩ := G1
  obtain ⟨g2, gd2, G2, m2, k2, b2⟩ := G2
  obtain ⟨g3, gd3, G3, m3, k3, b3⟩ := G3
  obtain ⟨t1, cM⟩ := cM
  refine F.ok scTL (fun vs H Q E h => ?_) (fun cdv A outer s H vs Q E hr h => ?_)
  · obtain ⟨x, d, n, y, t, rfl, _⟩ := h
    rfl
  · obtain ⟨x, d, n, y, t, rfl, ⟨dx, a, h1, h2⟩, hg, h⟩ := h
    refine ⟨_, pss_cons (ps_if (PW.pt (pw_or (pt_cmpR op_gt (pv 2) (pe_glob (v := .int 20) rfl cM ⟨_, rfl⟩) (nomark _)) (pw_or1 (pt_cmpR op_ge (pv 1) (pe_fld (pv 0) rfl) (nomark _))))) (pss_one (ps_ret (pe_lst (pa_cons (pe_un un_neg pe_int) pa_nil)))) pss_nil)
      (pss_cons (ps_if (pt_not (pt_val (pe_call G1 (hr.mono (by decide)) rfl m1 k1 b1 .nil pass0 (pa_cons (pe_fld (pv 0) rfl) (pa_cons (pe_fld (pv 0) rfl) (pa_cons (pv 1) pa_nil)))))) (pss_one (ps_ret (pe_lst (pa_cons (pe_un un_neg pe_int) pa_nil)))) pss_nil)
      (pss_cons (ps_set (i := 3) scTL.nd rfl (Or.inl rfl) (pe_call G2 hr rfl m2 k2 b2 .nil pass0 (pa_cons (pe_fld (pv 0) rfl) (pa_cons (pe_fld (pv 0) rfl) (pa_cons (pv 1) (pa_cons (pv 2) pa_nil))))))
      (pss_one (ps_ret (pe_op op_cat (pe_lst (pa_cons (pv 3) pa_nil)) (pe_call G3 (hr.mono (by decide)) rfl m3 k3 b3 .nil pass0 (pa_cons (pv 3) (pa_cons (pe_fld (pv 0) rfl) (pa_cons (pe_op op_add (pv 2) pe_int) pa_nil))))))))), ?_⟩
    have es : (Na03.step d (.lift y t)).2 = if 20 < t ∨ d.p ≤ y then [-1] else if Na03.isSimple d.f d.p y = false then [-6] else Na03.ints (Na03.lift d.f d.p y t :: Na03.digits d.p (t + 1) (Na03.lift d.f d.p y t)) := rfl
    have hp := hg.p2
    have hf9 := hg.f.len
    refine ⟨_, rfl, _, _, rfl, rfl, _, rfl, ?_⟩
    by_cases c1 : 20 < t
    · rw [if_pos (.inl c1)] at es
      rw [es] at h
      refine if_true_of (decide_eq_true (by omega)) ?_
      exact if_true_of rfl ⟨_, rfl, (by show 1 ≤ sizeLine; decide), fun q hq => h q _ (Same.new hq _) hq upd_same⟩
    · refine if_false_of (decide_eq_false (by omega)) ?_
      refine ⟨_, rfl, _, rfl, x, C, dx, _, _, rfl, h1, T.cl, T.nP, lF_prime _ _, _, _, rfl, rfl, _, rfl, ?_⟩
      by_cases c2 : d.p ≤ y
      · rw [if_pos (.inr c2)] at es
        rw [es] at h
        refine if_true_of (decide_eq_true (by omega)) ?_
        exact ⟨_, rfl, (by show 1 ≤ sizeLine; decide), fun q hq => h q _ (Same.new hq _) hq upd_same⟩
      · rw [if_neg (by omega)] at es
        refine if_false_of (decide_eq_false (by omega)) ?_
        refine ⟨_, rfl, x, C, dx, _, _, rfl, h1, T.cl, T.nN, lF_numbers _ _, _, rfl, x, C, dx, _, _, rfl, h1, T.cl, T.nP, lF_prime _ _, _, rfl, a, d.f, d.p, y, rfl, SqL.of h2, by omega, by omega, hp.2, by omega, fun H1 s1 => ⟨_, rfl, ?_⟩⟩
        cases c3 : Na03.isSimple d.f d.p y with
        | false =>
          rw [if_pos c3] at es
          rw [es] at h
          refine if_true_of rfl ?_
          exact ⟨_, rfl, (by show 1 ≤ sizeLine; decide), fun q hq => h q _ (s1.trans (Same.new hq _)) (s1.free hq) upd_same⟩
        | true =>
          rw [if_neg (by rw [c3]; decide)] at es
          rw [es] at h
          refine if_false_of rfl ?_
          refine ⟨_, rfl, x, C, dx, _, _, rfl, s1 _ _ h1, T.cl, T.nN, lF_numbers _ _, _, rfl, x, C, dx, _, _, rfl, s1 _ _ h1, T.cl, T.nP, lF_prime _ _, _, rfl, _, rfl, a, d.f, d.p, y, t, rfl, SqL.of (s1 _ _ h2), hg.p, by omega, by omega, c3, fun H2 s2 => ?_⟩
          have s12 := s1.trans s2
          refine ⟨_, rfl, (by show 1 ≤ sizeLine; decide), fun u hu => ?_⟩
          have su := Same.new hu (.lst [.int (Na03.lift d.f d.p y t : Nat)])
          have s13 := s12.trans su
          refine ⟨_, rfl, _, rfl, x, C, dx, _, _, rfl, s13 _ _ h1, T.cl, T.nP, lF_prime _ _, _, rfl, _, _, rfl, rfl, Na03.lift d.f d.p y t, d.p, t + 1, rfl, by omega, hp.2, by omega, fun q H4 s4 hq hq4 => ?_⟩
          refine ⟨u, q, _, _, rfl, rfl, s4 _ _ upd_same, hq4, ?_, fun r hr0 => ?_⟩
          · rw [List.length_map, ints_length, digits_len]
            have h5 : sizeLine = 16777216 := rfl
            show 1 + (t + 1) ≤ _
            omega
          · exact h r _ (s13.trans (s4.trans (Same.new hr0 _))) (s13.free (s4.free hr0)) upd_same
/-! ### Line.tell_slopes -/
abbrev sTS : Stmt := inClass sLi 12
def spTS (C : Addr) : Sp := fun vs H Q _ => ∃ (x : Addr) (d : Na03.Desk) (n : Nat), vs = [.ref x] ∧ LineAt C H x d ∧ Good d n ∧ n ≤ 30 ∧ Gives (Na03.step d .slopes).2 H Q
theorem scTS : FnScope ["self", "ways", "told", "way"] ["self"] (defScope sTS) := ⟨rfl, rfl, rfl, by decide +kernel, rfl, by decide +kernel, by decide +kernel⟩
theorem good_num {d : Na03.Desk} {n : Nat} (h : Good d n) (hn : n ≤ 30) : ∀ c ∈ d.f, c.natAbs < 2 ^ 1000 := fun c hc => by
  obtain ⟨i, hi, rfl⟩ := List.mem_iff_getElem.mp hc
  have := h.f.num hn i
  rw [co_in hi] at this
  exact Nat.lt_trans this (Nat.pow_lt_pow_right (by decide) (by decide))
theorem told3_len (s : Rat × Nat) : (told3 s).length = 3 := rfl
theorem flat3_len (l : List (Rat × Nat)) : (l.flatMap told3).length = 3 * l.length := by
  induction l with
  | nil => rfl
  | cons a l ih => rw [List.flatMap_cons, List.length_append, ih, told3_len, List.length_cons]; omega
theorem slopes_len_le (f : List Int) (p : Nat) : (Na03.slopes f p).length ≤ f.length + 1 := by
  have hull_le : ∀ (n : Nat) (l : List (Nat × Nat)), (Na03.hull n l).length ≤ n := by
    intro n
    induction n with
    | zero => exact fun l => Nat.le_refl _
    | succ n ih =>
      intro l
      match l with
      | [] => exact Nat.zero_le _
      | [a] => exact Nat.succ_le_succ (Nat.zero_le _)
      | a :: b :: r => exact Nat.succ_le_succ (ih _)
  unfold Na03.slopes
  dsimp only
  rw [List.length_map, List.length_zip]
  exact Nat.le_trans (Nat.min_le_left _ _) (hull_le _ _)
theorem ok_TS {f : Addr} {fd : FuncData} (F : Fun K "tell_slopes" "Line.tell_slopes" sTS f fd) (T : Txt K mg C) (G : Has P w K mg base 4 "ways_of" ["numbers", "prime"] (spWo K)) :
    FnOk P w K mg base CX0 5 f fd ["self"] (spTS C) := by
  obtain ⟨g1, gd1, G1, m1, k1, b1⟩ := G
  refine F.ok scTS (fun vs H Q E h => ?_) (fun cdv A outer s H vs Q E hr h => ?_)
  · obtain ⟨x, d, n, rfl, _⟩ := h
    rfl
  · obtain ⟨x, d, n, rfl, ⟨dx, a, h1, h2⟩, hg, hn, h⟩ := h
    refine ⟨_, pss_cons (ps_if (pt_cmpR op_eq (pe_callB call_len_seq (by rfl) T.own.len PySem.boot_len (pa_cons (pe_fld (pv 0) rfl) pa_nil)) pe_int (nomark _)) (pss_one (ps_ret (pe_lst (pa_cons (pe_un un_neg pe_int) pa_nil)))) pss_nil)
      (pss_cons (ps_set (i := 1) scTS.nd rfl (Or.inl rfl) (pe_call G1 hr rfl m1 k1 b1 .nil pass0 (pa_cons (pe_fld (pv 0) rfl) (pa_cons (pe_fld (pv 0) rfl) pa_nil))))
      (pss_cons (ps_set (i := 2) scTS.nd rfl (Or.inl rfl) (pe_lst (pa_cons (pe_callB call_len_seq (by rfl) T.own.len PySem.boot_len (pa_cons (pv 1) pa_nil)) pa_nil)))
      (pss_cons (ps_for PassesOwn.never rfl (pi_list (pv 1)) (pg_name (i := 3) scTS.nd rfl (Or.inl rfl))
        (pss_one (ps_expr (pe_bm PySem.F.plainAttrs_list PySem.F.slot_list_extend PySem.F.type_list_extend mt_extT (pv 2) (pa_cons (pv 3) pa_nil)))))
      (pss_one (ps_ret (pv 2)))))), ?_⟩
    have es : (Na03.step d .slopes).2 = if d.f = [] then [-3] else ((Na03.slopes d.f d.p).length : Int) :: (Na03.slopes d.f d.p).flatMap told3 := rfl
    have hp := hg.p2
    have hf9 := hg.f.len
    refine ⟨_, rfl, x, C, dx, _, _, rfl, h1, T.cl, T.nN, lF_numbers _ _, a, _, rfl, .inl (SqL.of h2), rfl, _, rfl, ?_⟩
    rw [List.length_map]
    by_cases c : d.f = []
    · rw [if_pos c] at es
      rw [es] at h
      refine if_true_of (decide_eq_true (by rw [c]; rfl)) ?_
      exact ⟨_, rfl, (by show 1 ≤ sizeLine; decide), fun q hq => h q _ (Same.new hq _) hq upd_same⟩
    · rw [if_neg c] at es
      rw [es] at h
      have hl0 : 0 < d.f.length := List.length_pos_iff.mpr c
      refine if_false_of (decide_eq_false fun z => by have := V.int.inj z; omega) ?_
      refine ⟨_, rfl, x, C, dx, _, _, rfl, h1, T.cl, T.nN, lF_numbers _ _, _, rfl, x, C, dx, _, _, rfl, h1, T.cl, T.nP, lF_prime _ _, a, d.f, d.p, rfl, SqL.of h2, by omega, hp.1, hp.2, good_num hg hn, hg.f.tight, c, fun W H1 cs s1 hW hW1 tw => ?_⟩
      have hcs : cs.length = (Na03.slopes d.f d.p).length := by
        have := tw.len
        rwa [List.length_map] at this
      have hsl := slopes_len_le d.f d.p
      refine ⟨_, rfl, W, _, rfl, .inl (SqL.of hW1), (by show 1 ≤ sizeLine; decide), fun t ht => ?_⟩
      rw [List.length_map, hcs]
      generalize Na03.slopes d.f d.p = sl at *
      have st := Same.new ht (.lst [.int ((sl.length : Nat) : Int)])
      have htH : H t = none := s1.free ht
      have nWt : W ≠ t := Same.ne (H' := H1) hW1 ht
      refine ⟨_, rfl, W, rfl, ⟨_, SqL.of (st _ _ hW1)⟩, for_list (K := K) (a := W) (xs := cs.map V.ref)
        (fun i σ H' => ∃ v : Option V, σ = [some (.ref x), some (.ref W), some (.ref t), v] ∧ Same H H' ∧ H' W = some (.lst (cs.map V.ref)) ∧ Tups H' cs (sl.map told3) ∧ H' t = some (.lst ((((sl.length : Nat) : Int) :: (sl.take i).flatMap told3).map V.int)))
        ⟨none, rfl, s1.trans st, st _ _ hW1, tw.mono st, upd_same⟩ (fun i σ H' _ ⟨_, _, _, hW', _⟩ => SqL.of hW') ?_ ?_⟩
      · rintro i y σ H2 hi ⟨v, rfl, s2, hW2, tw2, ht2⟩
        rw [List.getElem?_map] at hi
        obtain ⟨ci, hci, rfl⟩ := Option.map_eq_some_iff.mp hi
        have hil : i < sl.length := by
          have := (List.getElem?_eq_some_iff.mp hci).1
          omega
        obtain ⟨z, hz⟩ : ∃ z, sl[i]? = some z := ⟨sl[i]'hil, List.getElem?_eq_getElem hil⟩
        have htu := tw2.at_ i ci (told3 z) hci (by rw [List.getElem?_map, hz]; rfl)
        refine ⟨_, rfl, .inl ⟨rfl, _, SqL.of ht2⟩, _, rfl, t, ci, _, _, rfl, rfl, ht2, SqT.of htu, ?_, ?_⟩
        · rw [List.length_map, List.length_map, List.length_cons, flat3_len, told3_len, List.length_take]
          have h5 : sizeLine = 16777216 := rfl
          omega
        · refine ⟨some (.ref ci), rfl, Same.own s2 htH, (upd_ne nWt).trans hW2, tw2.store ht2, ?_⟩
          rw [upd_same, take_more hz, List.flatMap_append, ← List.map_append]
          simp
      · rintro σ H2 ⟨v, rfl, s2, hW2, tw2, ht2⟩
        refine ⟨_, rfl, h t H2 s2 htH ?_⟩
        rw [ht2, List.length_map, hcs, List.take_length]
end
end LR
set_option Elab.async false
set_option maxRecDepth 100000
set_option maxHeartbeats 2000000
set_option linter.unusedVariables false
namespace LR
open PySem PySem.Spec PyProof.Rows L2
theorem fresh_back {C x dx a : Addr} {p : Nat} {H H1 H' : Hp} (s : Same H H1) (h1 : H x = some (.ins C dx (lF a p))) (R : Fresh C x H1 H') : Fresh C x H H' := fun dx' a' p' e => by
  rcases R dx' a' p' e with q | ⟨dx2, p2, q⟩
  · exact .inl (s.free q)
  · rw [s _ _ h1] at q
    exact .inr ⟨dx2, p2, h1.trans q⟩
/-! ### answers: the loop, from what length_of_call and Line.answer promise -/
def spLC (K : PySem.W.Frag) : Sp := fun vs H Q _ => ∃ (a : Addr) (pre post : List Int) (c : Na03.Call), vs = [.ref a, .int ((pre.length : Nat) : Int)] ∧ SqL K H a ((pre ++ (flat1 c ++ post)).map V.int) ∧ ∀ H', Same H H' → Q (.int (((args c).length + 1 : Nat) : Int)) H'
def spAn (K : PySem.W.Frag) (C : Addr) : Sp := fun vs H Q _ => ∃ (x g : Addr) (d : Na03.Desk) (n : Nat) (c : Na03.Call), vs = [.ref x, .int ((code c : Nat) : Int), .ref g] ∧ LineAt C H x d ∧ Good d n ∧ n < 30 ∧
  H g = some (.lst ((Na03.ints (args c)).map V.int)) ∧ (args c).length ≤ 420 ∧ (∀ z ∈ args c, z < 2 ^ 32) ∧ Done C x d c H Q
def spAns (K : PySem.W.Frag) : Sp := fun vs H Q _ => ∃ (a : Addr) (l : List Int), vs = [.ref a] ∧ SqL K H a (l.map V.int) ∧ l.length ≤ 420 ∧ Ranged l ∧ PyNa03.answers_asked l = true ∧
  ∀ (H' : Hp) (p : Addr), H' p = some (.lst ((PyNa03.answers l).map V.int)) → Q (.ref p) H'
abbrev sAs : Stmt := top 55
theorem scAs : FnScope ["calls", "line", "told", "at", "behind"] ["calls"] (defScope sAs) := ⟨rfl, rfl, rfl, by decide +kernel, rfl, by decide +kernel, by decide +kernel⟩
theorem flat1_len (c : Na03.Call) : (flat1 c).length = (args c).length + 1 := by
  unfold flat1
  rw [ints_length]
  rfl
theorem cut_args (pre post : List Int) (c : Na03.Call) : cutV ((pre ++ (flat1 c ++ post)).map V.int) (some (((pre.length : Nat) : Int) + 1)) (some (((pre.length : Nat) : Int) + (((args c).length + 1 : Nat) : Int))) = (Na03.ints (args c)).map V.int := by
  have hl : ((pre ++ (flat1 c ++ post)).map V.int).length = pre.length + ((args c).length + 1 + post.length) := by
    rw [List.length_map, List.length_append, List.length_append, flat1_len]
  have e1 : ((pre.length : Nat) : Int) + 1 = ((pre.length + 1 : Nat) : Int) := by omega
  have e2 : ((pre.length : Nat) : Int) + (((args c).length + 1 : Nat) : Int) = ((pre.length + ((args c).length + 1) : Nat) : Int) := by omega
  unfold cutV
  rw [e1, e2, hl, HT.sIx_nat, HT.sIx_nat, Nat.min_eq_left (by omega), Nat.min_eq_left (by omega)]
  have e3 : pre.length + ((args c).length + 1) - (pre.length + 1) = (args c).length := by omega
  rw [e3, ← List.map_drop, ← List.map_take]
  congr 1
  have e4 : pre ++ (flat1 c ++ post) = (pre ++ [((code c : Nat) : Int)]) ++ (Na03.ints (args c) ++ post) := by
    unfold flat1
    rw [ints_cons, List.append_assoc]
    rfl
  rw [e4, List.drop_left' (by rw [List.length_append]; rfl), List.take_left' (ints_length _)]
theorem run_nonempty (d : Na03.Desk) (c : Na03.Call) (cs : List Na03.Call) : run d (c :: cs) = ((((Na03.step d c).2.length : Nat) : Int) :: (Na03.step d c).2) ++ run (Na03.step d c).1 cs := rfl
section
variable {P : Program} {w : World} {K : PySem.W.Frag} {mg : Str → Option Value} {base : Heap} {C : Addr}
theorem ok_As {f fI : Addr} {fd fdI : FuncData} {kA : Nat} (hk : kA ≤ 8) (F : Fun K "answers" "answers" sAs f fd) (T : Txt K mg C) (M : Mk K C fI) (GI : FnOk P w K mg base CX0 1 fI fdI ["self"] (spIn C)) (bI : Binds K fdI ["self"] [])
    (GL : Has P w K mg base 1 "length_of_call" ["calls", "at"] (spLC K)) (GC : Has P w K mg base 1 "counted" ["numbers"] (spCo K)) (GA : HasM P w K mg base C 8 "answer" ["self", "call", "given"] (spAn K C)) :
    FnOk P w K mg base CX0 9 f fd ["calls"] (spAns K) := by
  obtain ⟨g1, gd1, G1, m1, k1, b1⟩ := GL
  obtain ⟨g2, gd2, G2, m2, k2, b2⟩ := GC
  obtain ⟨g3, gd3, G3, m3, b3⟩ := GA
  refine F.ok scAs (fun vs H Q E h => ?_) (fun cdv A outer s H vs Q E hr h => ?_)
  · obtain ⟨a, l, rfl, _⟩ := h
    rfl
  · obtain ⟨a, l, rfl, hS, hl, hrg, hask, h⟩ := h
    obtain ⟨cs0, e0, hcs, eans, hshort⟩ := asked_calls hrg hask
    refine ⟨_, pss_cons (ps_set (i := 1) scAs.nd rfl (Or.inl rfl) (pe_make0 M GI (hr.mono (by decide)) rfl T.gC bI .nil pass0))
      (pss_cons (ps_set (i := 2) scAs.nd rfl (Or.inl rfl) (pe_lst pa_nil)) (pss_cons (ps_set (i := 3) scAs.nd rfl (Or.inl rfl) pe_int)
      (pss_cons (ps_while PassesOwn.never (pt_cmpR op_lt (pv 3) (pe_callB call_len_seq (by rfl) T.own.len PySem.boot_len (pa_cons (pv 0) pa_nil)) (nomark _))
        (pss_cons (ps_set (i := 4) scAs.nd rfl (Or.inl rfl) (pe_op op_add (pv 3) (pe_call G1 (hr.mono (by decide)) rfl m1 k1 b1 .nil pass0 (pa_cons (pv 0) (pa_cons (pv 3) pa_nil)))))
        (pss_cons (ps_expr (pe_bm PySem.F.plainAttrs_list PySem.F.slot_list_extend PySem.F.type_list_extend mt_extend (pv 2)
            (pa_cons (pe_call G2 (hr.mono (by decide)) rfl m2 k2 b2 .nil pass0
              (pa_cons (pe_meth (pv 1) T.cl m3 G3 hr b3 .nil pass0 (pa_cons (pe_ix ix_list (pv 0) (pv 3) (fun _ _ => rfl)) (pa_cons (pe_slice sl_list (pv 0) (po_some (pe_op op_add (pv 3) pe_int)) (po_some (pv 4))) pa_nil))) pa_nil)) pa_nil)))
        (pss_one (ps_set (i := 3) scAs.nd rfl (Or.inl rfl) (pv 4))))))
      (pss_one (ps_ret (pv 2)))))), ?_⟩
    intro x dx nx ndx nex
    refine ⟨x, dx, rfl, upd_same, fun H1 L1 R1 B1 => ⟨rfl, ?_⟩⟩
    have s1 : Same H H1 := Same.made nx ndx B1
    refine ⟨Nat.zero_le _, fun t ht => ?_⟩
    have nxt : x ≠ t := by
      intro e
      subst e
      obtain ⟨_, _, q, _⟩ := L1
      rw [q] at ht
      cases ht
    have s2 : Same H1 (upd H1 t (.lst [])) := Same.new ht _
    have htH : H t = none := s1.free ht
    refine ⟨fun m σ H' => ∃ (ds cs : List Na03.Call) (d : Na03.Desk) (n : Nat) (told : List Int) (v : Option V), m = cs.length ∧ σ = [some (.ref a), some (.ref x), some (.ref t), some (.int (((flat ds).length : Nat) : Int)), v] ∧
        l = flat ds ++ flat cs ∧ Same H H' ∧ LineAt C H' x d ∧ Good d n ∧ n + cs.length ≤ 30 ∧ H' t = some (.lst (told.map V.int)) ∧ told ++ run d cs = PyNa03.answers l ∧ ∀ dx a p, H' x = some (.ins C dx (lF a p)) → a ≠ t,
      ⟨cs0.length, [], cs0, Na03.init, 0, [], none, rfl, rfl, e0, s1.trans s2, ?_, good_init, by omega, upd_same, eans.symm, ?_⟩, ?_⟩
    · obtain ⟨dx', a', q1, q2⟩ := L1
      exact ⟨dx', a', s2 _ _ q1, s2 _ _ q2⟩
    · intro dx2 a2 p2 e e2
      subst e2
      rw [upd_ne nxt] at e
      obtain ⟨dx', a', q1, q2⟩ := L1
      rw [q1] at e
      injection (Option.some.inj e) with _ _ e3
      rw [lF_inj e3] at q2
      rw [q2] at ht
      cases ht
    · rintro m σ H' ⟨ds, cs, d, n, told, v, rfl, rfl, el, s3, L3, hg, hn, ht3, etold, hat⟩
      refine ⟨_, rfl, _, rfl, a, _, rfl, .inl (s3.seq hS), _, _, rfl, rfl, _, rfl, ?_⟩
      rw [List.length_map]
      cases cs with
      | nil =>
        have e1 : l = flat ds := by
          rw [el]
          exact List.append_nil _
        refine if_false_of (decide_eq_false (by rw [← e1]; omega)) ?_
        refine ⟨_, rfl, ?_⟩
        have e2 : told = PyNa03.answers l := by
          rw [← etold]
          exact (List.append_nil _).symm
        rw [e2] at ht3
        exact h _ _ ht3
      | cons c cs =>
        have el' : l = flat ds ++ (flat1 c ++ flat cs) := el
        have hll : l.length = (flat ds).length + ((args c).length + 1 + (flat cs).length) := by
          rw [el', List.length_append, List.length_append, flat1_len]
        refine if_true_of (decide_eq_true (by omega)) ?_
        have hSq : SqL K H' a ((flat ds ++ (flat1 c ++ flat cs)).map V.int) := by
          rw [← el']
          exact s3.seq hS
        refine ⟨_, fun σ' H' hN => hN, _, rfl, _, rfl, _, rfl, a, flat ds, flat cs, c, rfl, hSq, fun HL sL => ⟨_, _, rfl, rfl, ?_⟩⟩
        obtain ⟨dl, al, hx3, ha3⟩ := L3
        have hat : ∀ dx a p, HL x = some (.ins C dx (lF a p)) → a ≠ t := by
          intro dx2 a2 p2 e
          rw [sL _ _ hx3] at e
          injection (Option.some.inj e) with _ _ e3
          rw [← lF_inj e3]
          exact hat _ _ _ hx3
        have hx3 := sL _ _ hx3
        have ha3 := sL _ _ ha3
        have ht3 := sL _ _ ht3
        have s3 := s3.trans sL
        have hSq := sL.seq hSq
        have hcode : ((flat ds ++ (flat1 c ++ flat cs)).map V.int)[(flat ds).length]? = some (.int ((code c : Nat) : Int)) := by
          rw [List.getElem?_map, List.getElem?_append_right (Nat.le_refl _), Nat.sub_self]
          rfl
        refine ⟨_, rfl, .inl ⟨rfl, _, SqL.of ht3⟩, _, rfl, x, dl, _, rfl, hx3, lF_no (by decide +kernel) (by decide +kernel) _ _, _, rfl, _, rfl, a, _, _, _, rfl, rfl, hSq, atI_nat hcode, _, rfl, _, rfl, _, _, rfl, rfl, _, rfl, _, rfl, _, rfl, a, _, rfl, hSq, fun g hg0 => ?_⟩
        rw [cut_args]
        have s4 : Same HL (upd HL g (.lst ((Na03.ints (args c)).map V.int))) := Same.new hg0 _
        have hr2 : Ranged (flat1 c) := by
          rw [el'] at hrg
          exact hrg.right.left
        have hxt : t ≠ x := Ne.symm nxt
        refine ⟨x, g, d, n, c, rfl, ⟨dl, al, s4 _ _ hx3, s4 _ _ ha3⟩, hg, by simp at hn; omega, upd_same, by omega, ?_, fun H5 q L5 R5 B5 hq hq5 => ?_⟩
        · intro z hz
          have := hr2 (z : Int) (by unfold flat1 Na03.ints; exact List.mem_map.mpr ⟨z, List.mem_cons_of_mem _ hz, rfl⟩)
          omega
        · have e5 : told ++ (((((Na03.step d c).2.length : Nat) : Int) :: (Na03.step d c).2) ++ run (Na03.step d c).1 cs) = PyNa03.answers l := etold
          have hlen := congrArg List.length e5
          rw [List.length_append, List.length_append, List.length_cons] at hlen
          have ht5 : H5 t = some (.lst (told.map V.int)) := B5 _ _ (s4 _ _ ht3) hxt
          have hnew : ∀ dx a p, H5 x = some (.ins C dx (lF a p)) → a ≠ t := by
            intro dx2 a2 p2 e e2
            subst e2
            rcases R5 _ _ _ e with q0 | ⟨dx3, p3, q0⟩
            · rw [s4 _ _ ht3] at q0
              cases q0
            · rw [s4 _ _ hx3] at q0
              injection (Option.some.inj q0) with _ _ e3
              exact hat _ _ _ hx3 (lF_inj e3)
          refine ⟨q, (Na03.step d c).2, rfl, hq5, by omega, fun q6 H6 s6 hq6 hq7 => ?_⟩
          have ht6 := s6 _ _ ht5
          refine ⟨t, q6, _, _, rfl, rfl, ht6, hq7, ?_, ?_⟩
          · rw [List.length_map, List.length_map, List.length_cons]
            have h5 : sizeLine = 16777216 := rfl
            omega
          · refine ⟨_, rfl, ?_⟩
            refine ⟨cs.length, by simp, ds ++ [c], cs, (Na03.step d c).1, n + 1, told ++ ((((Na03.step d c).2.length : Nat) : Int) :: (Na03.step d c).2), some (.int ((((flat ds).length : Nat) : Int) + (((args c).length + 1 : Nat) : Int))), rfl, ?_, ?_, ?_, ?_, good_step hg c, by simp at hn; omega, ?_, ?_, ?_⟩
            · have e6 : (flat (ds ++ [c])).length = (flat ds).length + ((args c).length + 1) := by
                unfold flat
                rw [List.flatMap_append, List.length_append]
                congr 1
                rw [← flat1_len]
                simp
              rw [e6]
              rfl
            · rw [el']
              unfold flat
              rw [List.flatMap_append]
              simp
            · intro b o e
              have nb : b ≠ t := by
                intro z
                subst z
                rw [htH] at e
                cases e
              have nbx : b ≠ x := by
                intro z
                subst z
                rw [nx] at e
                cases e
              rw [upd_ne nb]
              exact s6 _ _ (B5 _ _ (s4 _ _ (s3 _ _ e)) nbx)
            · obtain ⟨d5, a5, q1, q2⟩ := L5
              have na5 : a5 ≠ t := hnew _ _ _ q1
              exact ⟨d5, a5, (upd_ne nxt).trans (s6 _ _ q1), (upd_ne na5).trans (s6 _ _ q2)⟩
            · rw [upd_same, List.map_append]
            · rw [List.append_assoc]
              exact e5
            · intro dx2 a2 p2 e
              rw [upd_ne nxt] at e
              obtain ⟨d5, a5, q1, q2⟩ := L5
              have q3 := s6 _ _ q1
              rw [q3] at e
              injection (Option.some.inj e) with _ _ e3
              rw [← lF_inj e3]
              exact hnew _ _ _ q1
end
end LR
set_option Elab.async false
set_option maxRecDepth 100000
set_option maxHeartbeats 2000000
set_option linter.unusedVariables false
namespace LR
open PySem PySem.Spec PyProof.Rows L2
/-- the numbers of the calls, as the top names them -/
structure Codes (mg : Str → Option Value) : Prop where
  n0 : ∃ t, mg "POLY" = some (.int 0 t)
  n1 : ∃ t, mg "PRIME" = some (.int 1 t)
  n2 : ∃ t, mg "VALUE" = some (.int 2 t)
  n3 : ∃ t, mg "VAL" = some (.int 3 t)
  n4 : ∃ t, mg "ROOTS" = some (.int 4 t)
  n5 : ∃ t, mg "NEXT" = some (.int 5 t)
  n6 : ∃ t, mg "COUNTS" = some (.int 6 t)
  n7 : ∃ t, mg "LIFT" = some (.int 7 t)
  n8 : ∃ t, mg "SLOPES" = some (.int 8 t)
  n9 : ∃ t, mg "TIMES" = some (.int 9 t)
  n10 : ∃ t, mg "MOVE" = some (.int 10 t)
  n11 : ∃ t, mg "SHOWN" = some (.int 11 t)
  n12 : ∃ t, mg "SIMPLE" = some (.int 12 t)
section
variable {P : Program} {w : World} {K : PySem.W.Frag} {mg : Str → Option Value} {base : Heap} {C : Addr}
/-! ### length_of_call -/
abbrev sLC : Stmt := top 54
theorem scLC : FnScope ["calls", "at"] ["calls", "at"] (defScope sLC) := ⟨rfl, rfl, rfl, by decide +kernel, rfl, by decide +kernel, by decide +kernel⟩
def rowed : Na03.Call → Bool
  | .poly _ => true | .times _ => true | _ => false
def paired : Na03.Call → Bool
  | .next _ _ => true | .lift _ _ => true | _ => false
def bare : Na03.Call → Bool
  | .slopes => true | .shown => true | .simple => true | _ => false
theorem in_rowed (c : Na03.Call) : inV (.int ((code c : Nat) : Int)) [.int 0, .int 9] = rowed c := by cases c <;> rfl
theorem in_paired (c : Na03.Call) : inV (.int ((code c : Nat) : Int)) [.int 5, .int 7] = paired c := by cases c <;> rfl
theorem in_bare (c : Na03.Call) : inV (.int ((code c : Nat) : Int)) [.int 8, .int 11, .int 12] = bare c := by cases c <;> rfl
theorem args_rowed {c : Na03.Call} (h : rowed c = true) : ∃ l, args c = l.length :: l := by
  cases c <;> first | exact ⟨_, rfl⟩ | cases h
theorem args_paired {c : Na03.Call} (h : paired c = true) : (args c).length = 2 := by
  cases c <;> first | rfl | cases h
theorem args_bare {c : Na03.Call} (h : bare c = true) : (args c).length = 0 := by
  cases c <;> first | rfl | cases h
theorem args_one {c : Na03.Call} (h1 : rowed c = false) (h2 : paired c = false) (h3 : bare c = false) : (args c).length = 1 := by
  cases c <;> first | rfl | (cases h1; done) | (cases h2; done) | (cases h3; done)
theorem ok_LC {f : Addr} {fd : FuncData} (F : Fun K "length_of_call" "length_of_call" sLC f fd) (N : Codes mg) : FnOk P w K mg base CX0 1 f fd ["calls", "at"] (spLC K) := by
  obtain ⟨t0, c0⟩ := N.n0
  obtain ⟨t1, c1⟩ := N.n1
  obtain ⟨t2, c2⟩ := N.n2
  obtain ⟨t3, c3⟩ := N.n3
  obtain ⟨t4, c4⟩ := N.n4
  obtain ⟨t5, c5⟩ := N.n5
  obtain ⟨t6, c6⟩ := N.n6
  obtain ⟨t7, c7⟩ := N.n7
  obtain ⟨t8, c8⟩ := N.n8
  obtain ⟨t9, c9⟩ := N.n9
  obtain ⟨t10, c10⟩ := N.n10
  obtain ⟨t11, c11⟩ := N.n11
  obtain ⟨t12, c12⟩ := N.n12
  refine F.ok scLC (fun vs H Q E h => ?_) (fun cdv A outer s H vs Q E hr h => ?_)
  · obtain ⟨a, pre, post, c, rfl, _⟩ := h
    rfl
  · obtain ⟨a, pre, post, c, rfl, hS, h⟩ := h
    refine ⟨_, pss_cons (ps_if (pt_cmpR op_in_seq (pe_ix ix_list (pv 0) (pv 1) (fun _ _ => rfl)) (pe_tup (pa_cons (pe_glob (v := .int 0) rfl c0 ⟨_, rfl⟩) (pa_cons (pe_glob (v := .int 9) rfl c9 ⟨_, rfl⟩) pa_nil))) (by rfl)) (pss_one (ps_ret (pe_op op_add pe_int (pe_ix ix_list (pv 0) (pe_op op_add (pv 1) pe_int) (fun _ _ => rfl))))) pss_nil)
      (pss_cons (ps_if (pt_cmpR op_in_seq (pe_ix ix_list (pv 0) (pv 1) (fun _ _ => rfl)) (pe_tup (pa_cons (pe_glob (v := .int 5) rfl c5 ⟨_, rfl⟩) (pa_cons (pe_glob (v := .int 7) rfl c7 ⟨_, rfl⟩) pa_nil))) (by rfl)) (pss_one (ps_ret pe_int)) pss_nil)
      (pss_cons (ps_if (pt_cmpR op_in_seq (pe_ix ix_list (pv 0) (pv 1) (fun _ _ => rfl)) (pe_tup (pa_cons (pe_glob (v := .int 8) rfl c8 ⟨_, rfl⟩) (pa_cons (pe_glob (v := .int 11) rfl c11 ⟨_, rfl⟩) (pa_cons (pe_glob (v := .int 12) rfl c12 ⟨_, rfl⟩) pa_nil)))) (by rfl)) (pss_one (ps_ret pe_int)) pss_nil)
      (pss_one (ps_ret pe_int)))), ?_⟩
    have hcode : ((pre ++ (flat1 c ++ post)).map V.int)[pre.length]? = some (.int ((code c : Nat) : Int)) := by
      rw [List.getElem?_map, List.getElem?_append_right (Nat.le_refl _), Nat.sub_self]
      rfl
    refine ⟨_, rfl, _, rfl, a, _, _, _, rfl, rfl, hS, atI_nat hcode, (by show 2 ≤ sizeLine; decide), fun t ht => ?_⟩
    have st := Same.new ht (.tup [.int 0, .int 9])
    refine ⟨t, _, rfl, .inr (SqT.of upd_same), rfl, rfl, _, rfl, ?_⟩
    cases r1 : rowed c with
    | true =>
      refine if_true_of ((in_rowed c).trans r1) ?_
      obtain ⟨l, el⟩ := args_rowed r1
      have hnext : ((pre ++ (flat1 c ++ post)).map V.int)[pre.length + 1]? = some (.int ((l.length : Nat) : Int)) := by
        rw [List.getElem?_map, List.getElem?_append_right (by omega), Nat.add_sub_cancel_left]
        unfold flat1
        rw [el]
        rfl
      refine ⟨_, rfl, _, rfl, _, _, rfl, rfl, a, _, _, _, rfl, rfl, st.seq hS, atI_nat hnext, _, _, rfl, rfl, ?_⟩
      have h' := h _ st
      rw [el] at h'
      have e : (2 : Int) + ((l.length : Nat) : Int) = (((l.length :: l).length + 1 : Nat) : Int) := by
        rw [List.length_cons]
        omega
      show Q (.int ((2 : Int) + ((l.length : Nat) : Int))) _
      rw [e]
      exact h'
    | false =>
      refine if_false_of ((in_rowed c).trans r1) ?_
      refine ⟨_, rfl, _, rfl, a, _, _, _, rfl, rfl, st.seq hS, atI_nat hcode, (by show 2 ≤ sizeLine; decide), fun t2 ht2 => ?_⟩
      have st2 := st.trans (Same.new ht2 (.tup [.int 5, .int 7]))
      refine ⟨t2, _, rfl, .inr (SqT.of upd_same), rfl, rfl, _, rfl, ?_⟩
      cases r2 : paired c with
      | true =>
        refine if_true_of ((in_paired c).trans r2) ?_
        have h' := h _ st2
        rw [args_paired r2] at h'
        exact h'
      | false =>
        refine if_false_of ((in_paired c).trans r2) ?_
        refine ⟨_, rfl, _, rfl, a, _, _, _, rfl, rfl, st2.seq hS, atI_nat hcode, (by show 3 ≤ sizeLine; decide), fun t3 ht3 => ?_⟩
        have st3 := st2.trans (Same.new ht3 (.tup [.int 8, .int 11, .int 12]))
        refine ⟨t3, _, rfl, .inr (SqT.of upd_same), rfl, rfl, _, rfl, ?_⟩
        cases r3 : bare c with
        | true =>
          refine if_true_of ((in_bare c).trans r3) ?_
          have h' := h _ st3
          rw [args_bare r3] at h'
          exact h'
        | false =>
          refine if_false_of ((in_bare c).trans r3) ?_
          have h' := h _ st3
          rw [args_one r1 r2 r3] at h'
          exact h'
/-! ### Line.answer -/
abbrev sAn : Stmt := inClass sLi 1
theorem scAn : FnScope ["self", "call", "given"] ["self", "call", "given"] (defScope sAn) := ⟨rfl, rfl, rfl, by decide +kernel, rfl, by decide +kernel, by decide +kernel⟩
theorem whole_abs {z : Nat} (h : z < 2 ^ 32) : (Na03.whole z).natAbs < 2 ^ 40 := by
  unfold Na03.whole
  split <;> omega
theorem simple_small (f : List Int) (p : Nat) (h : p < 1000) : (Na03.ints ((List.range p).filter (Na03.isSimple f p))).length < 16777000 := by
  rw [ints_length]
  have := List.length_filter_le (Na03.isSimple f p) (List.range p)
  rw [List.length_range] at this
  omega
theorem ok_An {f : Addr} {fd : FuncData} (F : Fun K "answer" "Line.answer" sAn f fd) (T : Txt K mg C) (N : Codes mg)
    (GF : Has P w K mg base 1 "from_handed" ["handed"] spFH) (GV : Has P w K mg base 1 "value_for" ["numbers", "x"] (spVF K)) (GC : Has P w K mg base 1 "counted" ["numbers"] (spCo K)) (GS : Has P w K mg base 4 "simple_roots" ["numbers", "prime"] (spSR K))
    (M0 : HasM P w K mg base C 3 "take_polynomial" ["self", "handed"] (spPl K C)) (M1 : HasM P w K mg base C 1 "take_prime" ["self", "prime"] (spTP K C)) (M3 : HasM P w K mg base C 2 "tell_times_divided" ["self", "number"] (spTT C))
    (M4 : HasM P w K mg base C 6 "tell_roots" ["self", "k"] (spTR C)) (M5 : HasM P w K mg base C 4 "tell_roots_gone_on_to" ["self", "k", "x"] (spTN C)) (M6 : HasM P w K mg base C 6 "tell_counts" ["self", "k"] (spTC C))
    (M7 : HasM P w K mg base C 5 "tell_lifted" ["self", "x", "times"] (spTL C)) (M8 : HasM P w K mg base C 5 "tell_slopes" ["self"] (spTS C)) (M9 : HasM P w K mg base C 3 "take_product" ["self", "handed"] (spTi K C)) (MA : HasM P w K mg base C 3 "take_moved" ["self", "handed"] (spMo K C)) :
    FnOk P w K mg base CX0 8 f fd ["self", "call", "given"] (spAn K C) := by
  obtain ⟨t0, c0⟩ := N.n0
  obtain ⟨t1, c1⟩ := N.n1
  obtain ⟨t2, c2⟩ := N.n2
  obtain ⟨t3, c3⟩ := N.n3
  obtain ⟨t4, c4⟩ := N.n4
  obtain ⟨t5, c5⟩ := N.n5
  obtain ⟨t6, c6⟩ := N.n6
  obtain ⟨t7, c7⟩ := N.n7
  obtain ⟨t8, c8⟩ := N.n8
  obtain ⟨t9, c9⟩ := N.n9
  obtain ⟨t10, c10⟩ := N.n10
  obtain ⟨t11, c11⟩ := N.n11
  obtain ⟨t12, c12⟩ := N.n12
  obtain ⟨gF, dF, GF, qF, kF, bF⟩ := GF
  obtain ⟨gV, dV, GV, qV, kV, bV⟩ := GV
  obtain ⟨gC, dC, GC, qC, kC, bC⟩ := GC
  obtain ⟨gS, dS, GS, qS, kS, bS⟩ := GS
  obtain ⟨f0, d0, M0, m0, b0⟩ := M0
  obtain ⟨f1, d1, M1, m1, b1⟩ := M1
  obtain ⟨f3, d3, M3, m3, b3⟩ := M3
  obtain ⟨f4, d4, M4, m4, b4⟩ := M4
  obtain ⟨f5, d5, M5, m5, b5⟩ := M5
  obtain ⟨f6, d6, M6, m6, b6⟩ := M6
  obtain ⟨f7, d7, M7, m7, b7⟩ := M7
  obtain ⟨f8, d8, M8, m8, b8⟩ := M8
  obtain ⟨f9, d9, M9, m9, b9⟩ := M9
  obtain ⟨fA, dA, MA, mA, bA⟩ := MA
  refine F.ok scAn (fun vs H Q E h => ?_) (fun cdv A outer s H vs Q E hr h => ?_)
  · obtain ⟨x, g, d, n, c, rfl, _⟩ := h
    rfl
  · obtain ⟨x, g, d, n, c, rfl, L, hg, hn, hG, hl, hz, h⟩ := h
    refine ⟨_, (pss_cons (ps_if (pt_cmpR op_eq (pv 1) (pe_glob (v := .int 0) rfl c0 ⟨_, rfl⟩) (nomark _)) (pss_one (ps_ret (pe_meth (pv 0) T.cl m0 M0 (hr.mono (by decide)) b0 .nil pass0 (pa_cons (pe_slice sl_list (pv 2) (po_some pe_int) po_none) pa_nil)))) pss_nil)
      (pss_cons (ps_if (pt_cmpR op_eq (pv 1) (pe_glob (v := .int 1) rfl c1 ⟨_, rfl⟩) (nomark _)) (pss_one (ps_ret (pe_meth (pv 0) T.cl m1 M1 (hr.mono (by decide)) b1 .nil pass0 (pa_cons (pe_ix ix_list (pv 2) pe_int (fun _ _ => rfl)) pa_nil)))) pss_nil)
      (pss_cons (ps_if (pt_cmpR op_eq (pv 1) (pe_glob (v := .int 2) rfl c2 ⟨_, rfl⟩) (nomark _)) (pss_one (ps_ret (pe_lst (pa_cons pe_int (pa_cons (pe_call GV (hr.mono (by decide)) rfl qV kV bV .nil pass0 (pa_cons (pe_fld (pv 0) rfl) (pa_cons (pe_call GF (hr.mono (by decide)) rfl qF kF bF .nil pass0 (pa_cons (pe_ix ix_list (pv 2) pe_int (fun _ _ => rfl)) pa_nil)) pa_nil))) pa_nil))))) pss_nil)
      (pss_cons (ps_if (pt_cmpR op_eq (pv 1) (pe_glob (v := .int 3) rfl c3 ⟨_, rfl⟩) (nomark _)) (pss_one (ps_ret (pe_meth (pv 0) T.cl m3 M3 (hr.mono (by decide)) b3 .nil pass0 (pa_cons (pe_call GF (hr.mono (by decide)) rfl qF kF bF .nil pass0 (pa_cons (pe_ix ix_list (pv 2) pe_int (fun _ _ => rfl)) pa_nil)) pa_nil)))) pss_nil)
      (pss_cons (ps_if (pt_cmpR op_eq (pv 1) (pe_glob (v := .int 4) rfl c4 ⟨_, rfl⟩) (nomark _)) (pss_one (ps_ret (pe_meth (pv 0) T.cl m4 M4 (hr.mono (by decide)) b4 .nil pass0 (pa_cons (pe_ix ix_list (pv 2) pe_int (fun _ _ => rfl)) pa_nil)))) pss_nil)
      (pss_cons (ps_if (pt_cmpR op_eq (pv 1) (pe_glob (v := .int 5) rfl c5 ⟨_, rfl⟩) (nomark _)) (pss_one (ps_ret (pe_meth (pv 0) T.cl m5 M5 (hr.mono (by decide)) b5 .nil pass0 (pa_cons (pe_ix ix_list (pv 2) pe_int (fun _ _ => rfl)) (pa_cons (pe_ix ix_list (pv 2) pe_int (fun _ _ => rfl)) pa_nil))))) pss_nil)
      (pss_cons (ps_if (pt_cmpR op_eq (pv 1) (pe_glob (v := .int 6) rfl c6 ⟨_, rfl⟩) (nomark _)) (pss_one (ps_ret (pe_meth (pv 0) T.cl m6 M6 (hr.mono (by decide)) b6 .nil pass0 (pa_cons (pe_ix ix_list (pv 2) pe_int (fun _ _ => rfl)) pa_nil)))) pss_nil)
      (pss_cons (ps_if (pt_cmpR op_eq (pv 1) (pe_glob (v := .int 7) rfl c7 ⟨_, rfl⟩) (nomark _)) (pss_one (ps_ret (pe_meth (pv 0) T.cl m7 M7 (hr.mono (by decide)) b7 .nil pass0 (pa_cons (pe_ix ix_list (pv 2) pe_int (fun _ _ => rfl)) (pa_cons (pe_ix ix_list (pv 2) pe_int (fun _ _ => rfl)) pa_nil))))) pss_nil)
      (pss_cons (ps_if (pt_cmpR op_eq (pv 1) (pe_glob (v := .int 8) rfl c8 ⟨_, rfl⟩) (nomark _)) (pss_one (ps_ret (pe_meth0 (pv 0) T.cl m8 M8 (hr.mono (by decide)) b8 .nil pass0))) pss_nil)
      (pss_cons (ps_if (pt_cmpR op_eq (pv 1) (pe_glob (v := .int 9) rfl c9 ⟨_, rfl⟩) (nomark _)) (pss_one (ps_ret (pe_meth (pv 0) T.cl m9 M9 (hr.mono (by decide)) b9 .nil pass0 (pa_cons (pe_slice sl_list (pv 2) (po_some pe_int) po_none) pa_nil)))) pss_nil)
      (pss_cons (ps_if (pt_cmpR op_eq (pv 1) (pe_glob (v := .int 10) rfl c10 ⟨_, rfl⟩) (nomark _)) (pss_one (ps_ret (pe_meth (pv 0) T.cl mA MA (hr.mono (by decide)) bA .nil pass0 (pa_cons (pe_ix ix_list (pv 2) pe_int (fun _ _ => rfl)) pa_nil)))) pss_nil)
      (pss_cons (ps_if (pt_cmpR op_eq (pv 1) (pe_glob (v := .int 11) rfl c11 ⟨_, rfl⟩) (nomark _)) (pss_one (ps_ret (pe_call GC (hr.mono (by decide)) rfl qC kC bC .nil pass0 (pa_cons (pe_fld (pv 0) rfl) pa_nil)))) pss_nil)
      (pss_cons (ps_if (pt_cmpR op_eq (pv 1) (pe_glob (v := .int 12) rfl c12 ⟨_, rfl⟩) (nomark _)) (pss_one (ps_ret (pe_call GC (hr.mono (by decide)) rfl qC kC bC .nil pass0 (pa_cons (pe_call GS (hr.mono (by decide)) rfl qS kS bS .nil pass0 (pa_cons (pe_fld (pv 0) rfl) (pa_cons (pe_fld (pv 0) rfl) pa_nil))) pa_nil)))) pss_nil)
      (pss_one ps_never)))))))))))))), ?_⟩
    have hp := hg.p2
    have hf9 := hg.f.len
    obtain ⟨dx, a, h1, h2⟩ := id L
    cases c with
    | poly l =>
      refine ⟨_, rfl, rfl, _, rfl, if_true_of (by rfl) ?_⟩
      refine ⟨_, rfl, x, dx, _, rfl, h1, lF_no (by decide +kernel) (by decide +kernel) _ _, _, rfl, _, rfl, g, _, rfl, SqL.of hG, fun q hq => ?_⟩
      have sq := Same.new hq (.lst (cutV ((Na03.ints (l.length :: l)).map V.int) (some 1) none))
      have hq1 : (upd H q (.lst (cutV ((Na03.ints (l.length :: l)).map V.int) (some 1) none))) q = some (.lst ((Na03.ints l).map V.int)) := by
        rw [upd_same, ints_cons, List.map_cons, cut_tail]
      exact ⟨x, q, d, l, rfl, ⟨dx, a, sq _ _ h1, sq _ _ h2⟩, SqL.of hq1, fun H' r L' R' B' hr hr' => h H' r L' (fresh_back sq h1 R') (fun b o e nb => B' b o (sq _ _ e) nb) (sq.free hr) hr'⟩
    | prime p =>
      iterate 1 refine ⟨_, rfl, rfl, _, rfl, if_false_of (by rfl) ?_⟩
      refine ⟨_, rfl, rfl, _, rfl, if_true_of (by rfl) ?_⟩
      exact ⟨_, rfl, x, dx, _, rfl, h1, lF_no (by decide +kernel) (by decide +kernel) _ _, _, rfl, g, _, _, _, rfl, rfl, SqL.of hG, atI_nat (j := 0) rfl, x, d, p, rfl, L, h⟩
    | value z =>
      iterate 2 refine ⟨_, rfl, rfl, _, rfl, if_false_of (by rfl) ?_⟩
      refine ⟨_, rfl, rfl, _, rfl, if_true_of (by rfl) ?_⟩
      refine ⟨_, rfl, x, C, dx, _, _, rfl, h1, T.cl, T.nN, lF_numbers _ _, _, rfl, g, _, _, _, rfl, rfl, SqL.of hG, atI_nat (j := 0) rfl, (z : Int), rfl, ?_⟩
      rw [← whole_eq]
      have hw := whole_abs (hz z (List.mem_singleton.mpr rfl))
      refine ⟨a, d.f, Na03.whole z, rfl, SqL.of h2, ⟨by omega, by omega⟩, (by show 2 ≤ sizeLine; decide), fun q hq => ?_⟩
      exact h.gives L rfl rfl q _ (Same.new hq _) hq upd_same
    | val z =>
      iterate 3 refine ⟨_, rfl, rfl, _, rfl, if_false_of (by rfl) ?_⟩
      refine ⟨_, rfl, rfl, _, rfl, if_true_of (by rfl) ?_⟩
      refine ⟨_, rfl, x, dx, _, rfl, h1, lF_no (by decide +kernel) (by decide +kernel) _ _, _, rfl, g, _, _, _, rfl, rfl, SqL.of hG, atI_nat (j := 0) rfl, (z : Int), rfl, ?_⟩
      rw [← whole_eq]
      have hw := whole_abs (hz z (List.mem_singleton.mpr rfl))
      refine ⟨x, d, n, Na03.whole z, rfl, L, hg, Nat.lt_trans hw (Nat.pow_lt_pow_right (by decide) (by decide)), ?_⟩
      exact h.gives L rfl rfl
    | roots k =>
      iterate 4 refine ⟨_, rfl, rfl, _, rfl, if_false_of (by rfl) ?_⟩
      refine ⟨_, rfl, rfl, _, rfl, if_true_of (by rfl) ?_⟩
      exact ⟨_, rfl, x, dx, _, rfl, h1, lF_no (by decide +kernel) (by decide +kernel) _ _, _, rfl, g, _, _, _, rfl, rfl, SqL.of hG, atI_nat (j := 0) rfl, x, d, n, k, rfl, L, hg, h.gives L rfl rfl⟩
    | next k y =>
      iterate 5 refine ⟨_, rfl, rfl, _, rfl, if_false_of (by rfl) ?_⟩
      refine ⟨_, rfl, rfl, _, rfl, if_true_of (by rfl) ?_⟩
      exact ⟨_, rfl, x, dx, _, rfl, h1, lF_no (by decide +kernel) (by decide +kernel) _ _, _, rfl, g, _, _, _, rfl, rfl, SqL.of hG, atI_nat (j := 0) rfl, _, rfl, g, _, _, _, rfl, rfl, SqL.of hG, atI_nat (j := 1) rfl, x, d, n, k, y, rfl, L, hg, h.gives L rfl rfl⟩
    | counts k =>
      iterate 6 refine ⟨_, rfl, rfl, _, rfl, if_false_of (by rfl) ?_⟩
      refine ⟨_, rfl, rfl, _, rfl, if_true_of (by rfl) ?_⟩
      exact ⟨_, rfl, x, dx, _, rfl, h1, lF_no (by decide +kernel) (by decide +kernel) _ _, _, rfl, g, _, _, _, rfl, rfl, SqL.of hG, atI_nat (j := 0) rfl, x, d, n, k, rfl, L, hg, h.gives L rfl rfl⟩
    | lift y t =>
      iterate 7 refine ⟨_, rfl, rfl, _, rfl, if_false_of (by rfl) ?_⟩
      refine ⟨_, rfl, rfl, _, rfl, if_true_of (by rfl) ?_⟩
      exact ⟨_, rfl, x, dx, _, rfl, h1, lF_no (by decide +kernel) (by decide +kernel) _ _, _, rfl, g, _, _, _, rfl, rfl, SqL.of hG, atI_nat (j := 0) rfl, _, rfl, g, _, _, _, rfl, rfl, SqL.of hG, atI_nat (j := 1) rfl, x, d, n, y, t, rfl, L, hg, h.gives L rfl rfl⟩
    | slopes =>
      iterate 8 refine ⟨_, rfl, rfl, _, rfl, if_false_of (by rfl) ?_⟩
      refine ⟨_, rfl, rfl, _, rfl, if_true_of (by rfl) ?_⟩
      exact ⟨_, rfl, x, dx, _, rfl, h1, lF_no (by decide +kernel) (by decide +kernel) _ _, x, d, n, rfl, L, hg, by omega, h.gives L rfl rfl⟩
    | times l =>
      iterate 9 refine ⟨_, rfl, rfl, _, rfl, if_false_of (by rfl) ?_⟩
      refine ⟨_, rfl, rfl, _, rfl, if_true_of (by rfl) ?_⟩
      refine ⟨_, rfl, x, dx, _, rfl, h1, lF_no (by decide +kernel) (by decide +kernel) _ _, _, rfl, _, rfl, g, _, rfl, SqL.of hG, fun q hq => ?_⟩
      have sq := Same.new hq (.lst (cutV ((Na03.ints (l.length :: l)).map V.int) (some 1) none))
      have hq1 : (upd H q (.lst (cutV ((Na03.ints (l.length :: l)).map V.int) (some 1) none))) q = some (.lst ((Na03.ints l).map V.int)) := by
        rw [upd_same, ints_cons, List.map_cons, cut_tail]
      exact ⟨x, q, d, n, l, rfl, ⟨dx, a, sq _ _ h1, sq _ _ h2⟩, hg, SqL.of hq1, fun H' r L' R' B' hr hr' => h H' r L' (fresh_back sq h1 R') (fun b o e nb => B' b o (sq _ _ e) nb) (sq.free hr) hr'⟩
    | move z =>
      iterate 10 refine ⟨_, rfl, rfl, _, rfl, if_false_of (by rfl) ?_⟩
      refine ⟨_, rfl, rfl, _, rfl, if_true_of (by rfl) ?_⟩
      exact ⟨_, rfl, x, dx, _, rfl, h1, lF_no (by decide +kernel) (by decide +kernel) _ _, _, rfl, g, _, _, _, rfl, rfl, SqL.of hG, atI_nat (j := 0) rfl, x, d, n, z, rfl, L, hg, h⟩
    | shown =>
      iterate 11 refine ⟨_, rfl, rfl, _, rfl, if_false_of (by rfl) ?_⟩
      refine ⟨_, rfl, rfl, _, rfl, if_true_of (by rfl) ?_⟩
      exact ⟨_, rfl, x, C, dx, _, _, rfl, h1, T.cl, T.nN, lF_numbers _ _, a, d.f, rfl, h2, by omega, fun q H' s' hq hq' => h.gives L rfl rfl q H' s' hq hq'⟩
    | simple =>
      iterate 12 refine ⟨_, rfl, rfl, _, rfl, if_false_of (by rfl) ?_⟩
      refine ⟨_, rfl, rfl, _, rfl, if_true_of (by rfl) ?_⟩
      refine ⟨_, rfl, x, C, dx, _, _, rfl, h1, T.cl, T.nN, lF_numbers _ _, _, rfl, x, C, dx, _, _, rfl, h1, T.cl, T.nP, lF_prime _ _, a, d.f, d.p, rfl, SqL.of h2, by omega, by omega, hp.2, fun q H1 s1 hq hq1 => ?_⟩
      refine ⟨q, _, rfl, hq1, simple_small d.f d.p hp.2, fun r H2 s2 hr0 hr1 => ?_⟩
      refine h.gives L rfl (told_eq _) r H2 (s1.trans s2) (s1.free hr0) hr1
end
end LR
set_option Elab.async false
set_option maxRecDepth 100000
set_option maxHeartbeats 2000000
set_option linter.unusedVariables false
namespace LR
open PySem PySem.Spec PyProof.Rows L2
/-- a def of the top, as it stands -/
structure DefIs (K : PySem.W.Frag) (x : Str) (st : Stmt) : Prop where
  ex : ∃ (f : Addr) (oc : Value) (od : Option Addr) (kV dc pm : Value) (an : Option Addr) (cd ct : Value) (sl : Array (Option Value)),
    PySem.W.nsIn K mainGlobals x = some (some (.ref f)) ∧ K.lookup f = some ⟨oc, od, .func (PySem.W.fnOf x x (defArgs st) (defBody st) (defScope st) .none kV dc pm an cd ct), sl⟩ ∧ PySem.W.codeIn K cd x = true ∧ PySem.W.keepIn K (.ref f) = true
/-- a method of the class at C -/
structure MethIs (K : PySem.W.Frag) (C : Addr) (x q : Str) (st : Stmt) : Prop where
  ex : ∃ (f : Addr) (oc : Value) (od : Option Addr) (kV dc pm : Value) (an : Option Addr) (cd ct : Value) (sl : Array (Option Value)),
    PySem.W.findIn K (.ref C) x = some (some (.ref f)) ∧ PySem.W.isFn K (.ref f) = true ∧ K.lookup f = some ⟨oc, od, .func (PySem.W.fnOf x q (defArgs st) (defBody st) (defScope st) .none kV dc pm an cd ct), sl⟩ ∧ PySem.W.codeIn K cd q = true ∧ PySem.W.keepIn K (.ref f) = true
/-- how so many arguments meet the parameters -/
def Takes (x q : Str) (st : Stmt) (ps : List Str) : Prop := ∀ (kV dc pm : Value) (an : Option Addr) (cdv ct : Value) (us : List Value), us.length = ps.length →
  bindArgs (PySem.W.fnOf x q (defArgs st) (defBody st) (defScope st) .none kV dc pm an cdv ct) { pos := us } = pure (ps.zip us)
theorem DefIs.by {K : PySem.W.Frag} {x : Str} {st : Stmt} {f : Addr} {oc : Value} {od : Option Addr} {kV dc pm : Value} {an : Option Addr} {cd ct : Value} {sl : Array (Option Value)}
    (a : PySem.W.nsIn K mainGlobals x = some (some (.ref f))) (l : K.lookup f = some ⟨oc, od, .func (PySem.W.fnOf x x (defArgs st) (defBody st) (defScope st) .none kV dc pm an cd ct), sl⟩) (c : PySem.W.codeIn K cd x = true) (k : PySem.W.keepIn K (.ref f) = true) : DefIs K x st :=
  ⟨⟨f, oc, od, kV, dc, pm, an, cd, ct, sl, a, l, c, k⟩⟩
theorem MethIs.by {K : PySem.W.Frag} {C : Addr} {x q : Str} {st : Stmt} {f : Addr} {oc : Value} {od : Option Addr} {kV dc pm : Value} {an : Option Addr} {cd ct : Value} {sl : Array (Option Value)}
    (a : PySem.W.findIn K (.ref C) x = some (some (.ref f))) (i : PySem.W.isFn K (.ref f) = true) (l : K.lookup f = some ⟨oc, od, .func (PySem.W.fnOf x q (defArgs st) (defBody st) (defScope st) .none kV dc pm an cd ct), sl⟩) (c : PySem.W.codeIn K cd q = true) (k : PySem.W.keepIn K (.ref f) = true) : MethIs K C x q st :=
  ⟨⟨f, oc, od, kV, dc, pm, an, cd, ct, sl, a, i, l, c, k⟩⟩
section
variable {P : Program} {w : World} {K : PySem.W.Frag} {mg : Str → Option Value} {h base : Heap} {C : Addr}
theorem DefIs.has {x : Str} {st : Stmt} {ps : List Str} {sp : Sp} {k : Nat} (D : DefIs K x st) (X : K.In h) (G : h.Ns mainGlobals mg) (hb : Takes x x st ps) (ok : ∀ {f : Addr} {fd : FuncData}, Fun K x x st f fd → FnOk P w K mg base CX0 k f fd ps sp) : Has P w K mg base k x ps sp := by
  obtain ⟨f, oc, od, kV, dc, pm, an, cd, ct, sl, a, l, c, kp⟩ := D
  have F := fun_mk (st := st) l c kp
  exact ⟨f, _, ok F, PySem.W.mg_of X G a, kp, F.binds hb⟩
theorem MethIs.has {x q : Str} {st : Stmt} {ps : List Str} {sp : Sp} {k : Nat} (D : MethIs K C x q st) (hb : Takes x q st ps) (ok : ∀ {f : Addr} {fd : FuncData}, Fun K x q st f fd → FnOk P w K mg base CX0 k f fd ps sp) : HasM P w K mg base C k x ps sp := by
  obtain ⟨f, oc, od, kV, dc, pm, an, cd, ct, sl, a, i, l, c, kp⟩ := D
  have F := fun_mk (st := st) l c kp
  exact ⟨f, _, ok F, ⟨a, i, kp⟩, F.binds hb⟩
end
/-- a whole number of the top -/
def ConstIs (K : PySem.W.Frag) (x : Str) (n : Int) : Prop := ∃ u : Value, PySem.W.nsIn K mainGlobals x = some (some u) ∧ ∃ t, u = .int n t
/-- a tuple of the top -/
def TupIs (K : PySem.W.Frag) (x : Str) (xs : List V) : Prop := ∃ a, PySem.W.nsIn K mainGlobals x = some (some (.ref a)) ∧ ∀ H, SqT K H a xs
theorem ConstIs.by {K : PySem.W.Frag} {x : Str} {n : Int} {u : Value} (a : PySem.W.nsIn K mainGlobals x = some (some u)) (r : ∃ t, u = .int n t) : ConstIs K x n := ⟨u, a, r⟩
theorem TupIs.by {K : PySem.W.Frag} {x : Str} {xs : List V} {a : Addr} {o : Obj} (e : PySem.W.nsIn K mainGlobals x = some (some (.ref a))) (l : K.lookup a = some o)
    (r : ∃ (its : Array Value) (n : Nat), o.cls = .type "tuple" ∧ o.data = .seq its n ∧ its.size ≤ sizeLine ∧ Vals xs its.toList) : TupIs K x xs := by
  obtain ⟨its, n, h1, h2, h3, h4⟩ := r
  exact ⟨a, e, fun H => .inr ⟨o, its, n, l, h1, h2, h3, h4⟩⟩
/-- all that the end shows of the top -/
structure Tops (K : PySem.W.Frag) (C : Addr) : Prop where
  d_from_handed : DefIs K "from_handed" sFH
  d_without_last_zeros : DefIs K "without_last_zeros" sWZ
  d_value_for : DefIs K "value_for" sVF
  d_product : DefIs K "product" sPr
  d_plus_number : DefIs K "plus_number" sPN
  d_moved : DefIs K "moved" sMv
  d_slope_of : DefIs K "slope_of" sSo
  d_times_divided : DefIs K "times_divided" sTD
  d_power_of : DefIs K "power_of" sPO
  d_is_root : DefIs K "is_root" sIR
  d_roots_gone_on_to : DefIs K "roots_gone_on_to" sRG
  d_roots_of_next_power : DefIs K "roots_of_next_power" sRN
  d_roots_of_powers : DefIs K "roots_of_powers" sRP
  d_is_simple_root : DefIs K "is_simple_root" sIS
  d_simple_roots : DefIs K "simple_roots" sSR
  d_lifted : DefIs K "lifted" sLf
  d_digits_of : DefIs K "digits_of" sDg
  d_points_of : DefIs K "points_of" sPt
  d_run_of : DefIs K "run_of" sRu
  d_rise_of : DefIs K "rise_of" sRi
  d_rises_no_more : DefIs K "rises_no_more" sRm
  d_place_of_next : DefIs K "place_of_next" sPx
  d_greatest_common_divisor : DefIs K "greatest_common_divisor" sGc
  d_way_between : DefIs K "way_between" sWb
  d_ways_of : DefIs K "ways_of" sWo
  d_counted : DefIs K "counted" sCo
  d_takes_numbers : DefIs K "takes_numbers" sNu
  d_polynomial_from : DefIs K "polynomial_from" sPF
  d_length_of_call : DefIs K "length_of_call" sLC
  d_answers : DefIs K "answers" sAs
  e_init : MethIs K C "__init__" "Line.__init__" sIn
  e_take_polynomial : MethIs K C "take_polynomial" "Line.take_polynomial" sPl
  e_take_product : MethIs K C "take_product" "Line.take_product" sTi
  e_take_moved : MethIs K C "take_moved" "Line.take_moved" sMo
  e_take_prime : MethIs K C "take_prime" "Line.take_prime" sTP
  e_tell_times_divided : MethIs K C "tell_times_divided" "Line.tell_times_divided" sTT
  e_takes_power : MethIs K C "takes_power" "Line.takes_power" sTk
  e_tell_roots : MethIs K C "tell_roots" "Line.tell_roots" sTR
  e_tell_roots_gone_on_to : MethIs K C "tell_roots_gone_on_to" "Line.tell_roots_gone_on_to" sTN
  e_tell_counts : MethIs K C "tell_counts" "Line.tell_counts" sTC
  e_tell_lifted : MethIs K C "tell_lifted" "Line.tell_lifted" sTL
  e_tell_slopes : MethIs K C "tell_slopes" "Line.tell_slopes" sTS
  e_answer : MethIs K C "answer" "Line.answer" sAn
  k_POLY : ConstIs K "POLY" 0
  k_PRIME : ConstIs K "PRIME" 1
  k_VALUE : ConstIs K "VALUE" 2
  k_VAL : ConstIs K "VAL" 3
  k_ROOTS : ConstIs K "ROOTS" 4
  k_NEXT : ConstIs K "NEXT" 5
  k_COUNTS : ConstIs K "COUNTS" 6
  k_LIFT : ConstIs K "LIFT" 7
  k_SLOPES : ConstIs K "SLOPES" 8
  k_TIMES : ConstIs K "TIMES" 9
  k_MOVE : ConstIs K "MOVE" 10
  k_SHOWN : ConstIs K "SHOWN" 11
  k_SIMPLE : ConstIs K "SIMPLE" 12
  k_MOST_NUMBERS : ConstIs K "MOST_NUMBERS" 5
  k_LARGEST_NUMBER : ConstIs K "LARGEST_NUMBER" 2000
  k_LARGEST_K : ConstIs K "LARGEST_K" 14
  k_LARGEST_POWER : ConstIs K "LARGEST_POWER" 5000
  k_MOST_TIMES_LIFTED : ConstIs K "MOST_TIMES_LIFTED" 20
  k_MOST_NUMBERS_OF_PRODUCT : ConstIs K "MOST_NUMBERS_OF_PRODUCT" 9
  k_LARGEST_MOVE : ConstIs K "LARGEST_MOVE" 200
  t1 : TupIs K "PRIMES" [.int 2, .int 3, .int 5, .int 7]
  aC : PySem.W.nsIn K mainGlobals "Line" = some (some (.ref C))
  cl : Cls K C
  nN : PySem.W.findIn K (.ref C) "numbers" = some none
  nP : PySem.W.findIn K (.ref C) "prime" = some none
  mks : PySem.W.makesIn K C = true
  kc : PySem.W.keepIn K (.ref C) = true
  o_len : PySem.W.nsIn K mainGlobals "len" = some none
  o_list : PySem.W.nsIn K mainGlobals "list" = some none
  o_reversed : PySem.W.nsIn K mainGlobals "reversed" = some none
  o_range : PySem.W.nsIn K mainGlobals "range" = some none
  o_sorted : PySem.W.nsIn K mainGlobals "sorted" = some none
  o_max : PySem.W.nsIn K mainGlobals "max" = some none
  o_enumerate : PySem.W.nsIn K mainGlobals "enumerate" = some none
  o_abs : PySem.W.nsIn K mainGlobals "abs" = some none
theorem all_mk {P : Program} {w : World} {K : PySem.W.Frag} {h : Heap} {mg : Str → Option Value} {fa C : Addr} (X : K.In h) (G : h.Ns mainGlobals mg) (hfa : mg "answers" = some (.ref fa)) (T : Tops K C) :
    ∃ fd : FuncData, (∀ (s : Shared) (us : List Value), us.length = (["calls"] : List Str).length → BindsTo s fd ⟨us, []⟩ ((["calls"] : List Str).zip us)) ∧ ∀ base : Heap, K.In base → base.Ns mainGlobals mg → FnOk P w K mg base CX0 9 fa fd ["calls"] (spAns K) := by
  have O : Own mg := ⟨PySem.W.mg_none_of X G T.o_len, PySem.W.mg_none_of X G T.o_list, PySem.W.mg_none_of X G T.o_reversed, PySem.W.mg_none_of X G T.o_range, PySem.W.mg_none_of X G T.o_sorted, PySem.W.mg_none_of X G T.o_max, PySem.W.mg_none_of X G T.o_enumerate, PySem.W.mg_none_of X G T.o_abs⟩
  have TT : Txt K mg C := ⟨O, T.cl, T.nN, T.nP, PySem.W.mg_of X G T.aC⟩
  have cst : ∀ {x n}, ConstIs K x n → ∃ t, mg x = some (.int n t) := fun ⟨u, e, t, q⟩ => ⟨t, by rw [← q]; exact PySem.W.mg_of X G e⟩
  have NN : Codes mg := ⟨cst T.k_POLY, cst T.k_PRIME, cst T.k_VALUE, cst T.k_VAL, cst T.k_ROOTS, cst T.k_NEXT, cst T.k_COUNTS, cst T.k_LIFT, cst T.k_SLOPES, cst T.k_TIMES, cst T.k_MOVE, cst T.k_SHOWN, cst T.k_SIMPLE⟩
  obtain ⟨aP, gP, kP⟩ := T.t1
  obtain ⟨f, oc, od, kV, dc, pm, an, cd, ct, sl, a, l, c, kp⟩ := T.d_answers
  have ea := hfa.symm.trans (PySem.W.mg_of X G a)
  cases ea
  obtain ⟨fI, ocI, odI, kVI, dcI, pmI, anI, cdI, ctI, slI, aI, iI, lI, cI, kpI⟩ := T.e_init
  have FI := fun_mk (st := sIn) lI cI kpI
  refine ⟨PySem.W.fnOf "answers" "answers" (defArgs sAs) (defBody sAs) (defScope sAs) .none kV dc pm an cd ct, fun s us hu => match us, hu with | [_], _ => .of_eq rfl, fun base _ _ => ?_⟩
  have h_from_handed : Has P w K mg base 1 "from_handed" ["handed"] spFH := T.d_from_handed.has X G (fun _ _ _ _ _ _ us hl => match us, hl with | [_], _ => rfl) (ok_FH)
  have h_without_last_zeros : Has P w K mg base 1 "without_last_zeros" ["numbers"] (spWZ K) := T.d_without_last_zeros.has X G (fun _ _ _ _ _ _ us hl => match us, hl with | [_], _ => rfl) (fun F => ok_WZ F O)
  have h_value_for : Has P w K mg base 1 "value_for" ["numbers", "x"] (spVF K) := T.d_value_for.has X G (fun _ _ _ _ _ _ us hl => match us, hl with | [_, _], _ => rfl) (fun F => ok_VF F O)
  have h_product : Has P w K mg base 1 "product" ["one", "other"] (spPr K) := T.d_product.has X G (fun _ _ _ _ _ _ us hl => match us, hl with | [_, _], _ => rfl) (fun F => ok_Pr F O)
  have h_plus_number : Has P w K mg base 1 "plus_number" ["numbers", "number"] (spPN K) := T.d_plus_number.has X G (fun _ _ _ _ _ _ us hl => match us, hl with | [_, _], _ => rfl) (fun F => ok_PN F O)
  have h_moved : Has P w K mg base 2 "moved" ["numbers", "z"] (spMv K) := T.d_moved.has X G (fun _ _ _ _ _ _ us hl => match us, hl with | [_, _], _ => rfl) (fun F => ok_Mv F O h_product h_plus_number)
  have h_slope_of : Has P w K mg base 1 "slope_of" ["numbers"] (spSo K) := T.d_slope_of.has X G (fun _ _ _ _ _ _ us hl => match us, hl with | [_], _ => rfl) (fun F => ok_So F O)
  have h_times_divided : Has P w K mg base 1 "times_divided" ["number", "prime"] spTD := T.d_times_divided.has X G (fun _ _ _ _ _ _ us hl => match us, hl with | [_, _], _ => rfl) (ok_TD)
  have h_power_of : Has P w K mg base 1 "power_of" ["prime", "k"] spPO := T.d_power_of.has X G (fun _ _ _ _ _ _ us hl => match us, hl with | [_, _], _ => rfl) (fun F => ok_PO F O)
  have h_is_root : Has P w K mg base 2 "is_root" ["numbers", "power", "x"] (spIR K) := T.d_is_root.has X G (fun _ _ _ _ _ _ us hl => match us, hl with | [_, _, _], _ => rfl) (fun F => ok_IR F h_value_for)
  have h_roots_gone_on_to : Has P w K mg base 3 "roots_gone_on_to" ["numbers", "prime", "power", "x"] (spRG K) := T.d_roots_gone_on_to.has X G (fun _ _ _ _ _ _ us hl => match us, hl with | [_, _, _, _], _ => rfl) (fun F => ok_RG F O h_is_root)
  have h_roots_of_next_power : Has P w K mg base 4 "roots_of_next_power" ["numbers", "prime", "power", "roots"] (spRN K) := T.d_roots_of_next_power.has X G (fun _ _ _ _ _ _ us hl => match us, hl with | [_, _, _, _], _ => rfl) (fun F => ok_RN F O h_roots_gone_on_to)
  have h_roots_of_powers : Has P w K mg base 5 "roots_of_powers" ["numbers", "prime", "k"] (spRP K) := T.d_roots_of_powers.has X G (fun _ _ _ _ _ _ us hl => match us, hl with | [_, _, _], _ => rfl) (fun F => ok_RP F O h_roots_of_next_power)
  have h_is_simple_root : Has P w K mg base 3 "is_simple_root" ["numbers", "prime", "x"] (spIS K) := T.d_is_simple_root.has X G (fun _ _ _ _ _ _ us hl => match us, hl with | [_, _, _], _ => rfl) (fun F => ok_IS F h_is_root h_value_for h_slope_of)
  have h_simple_roots : Has P w K mg base 4 "simple_roots" ["numbers", "prime"] (spSR K) := T.d_simple_roots.has X G (fun _ _ _ _ _ _ us hl => match us, hl with | [_, _], _ => rfl) (fun F => ok_SR F O h_is_simple_root)
  have h_lifted : Has P w K mg base 4 "lifted" ["numbers", "prime", "x", "times"] (spLf K) := T.d_lifted.has X G (fun _ _ _ _ _ _ us hl => match us, hl with | [_, _, _, _], _ => rfl) (fun F => ok_Lf F O h_roots_gone_on_to)
  have h_digits_of : Has P w K mg base 1 "digits_of" ["number", "prime", "many"] (spDg K) := T.d_digits_of.has X G (fun _ _ _ _ _ _ us hl => match us, hl with | [_, _, _], _ => rfl) (fun F => ok_Dg F O)
  have h_points_of : Has P w K mg base 2 "points_of" ["numbers", "prime"] (spPt K) := T.d_points_of.has X G (fun _ _ _ _ _ _ us hl => match us, hl with | [_, _], _ => rfl) (fun F => ok_Pt F O h_times_divided)
  have h_run_of : Has P w K mg base 1 "run_of" ["start", "end"] spRu := T.d_run_of.has X G (fun _ _ _ _ _ _ us hl => match us, hl with | [_, _], _ => rfl) (ok_Ru)
  have h_rise_of : Has P w K mg base 1 "rise_of" ["start", "end"] spRi := T.d_rise_of.has X G (fun _ _ _ _ _ _ us hl => match us, hl with | [_, _], _ => rfl) (ok_Ri)
  have h_rises_no_more : Has P w K mg base 2 "rises_no_more" ["start", "one", "other"] spRm := T.d_rises_no_more.has X G (fun _ _ _ _ _ _ us hl => match us, hl with | [_, _, _], _ => rfl) (fun F => ok_Rm F h_run_of h_rise_of)
  have h_place_of_next : Has P w K mg base 3 "place_of_next" ["points", "place"] (spPx K) := T.d_place_of_next.has X G (fun _ _ _ _ _ _ us hl => match us, hl with | [_, _], _ => rfl) (fun F => ok_Px F O h_rises_no_more)
  have h_greatest_common_divisor : Has P w K mg base 1 "greatest_common_divisor" ["one", "other"] spGc := T.d_greatest_common_divisor.has X G (fun _ _ _ _ _ _ us hl => match us, hl with | [_, _], _ => rfl) (fun F => ok_Gc F O)
  have h_way_between : Has P w K mg base 2 "way_between" ["start", "end"] spWb := T.d_way_between.has X G (fun _ _ _ _ _ _ us hl => match us, hl with | [_, _], _ => rfl) (fun F => ok_Wb F h_run_of h_rise_of h_greatest_common_divisor)
  have h_ways_of : Has P w K mg base 4 "ways_of" ["numbers", "prime"] (spWo K) := T.d_ways_of.has X G (fun _ _ _ _ _ _ us hl => match us, hl with | [_, _], _ => rfl) (fun F => ok_Wo F O h_points_of h_place_of_next h_way_between)
  have h_counted : Has P w K mg base 1 "counted" ["numbers"] (spCo K) := T.d_counted.has X G (fun _ _ _ _ _ _ us hl => match us, hl with | [_], _ => rfl) (fun F => ok_Co F O)
  have h_takes_numbers : Has P w K mg base 1 "takes_numbers" ["handed"] (spNu K) := T.d_takes_numbers.has X G (fun _ _ _ _ _ _ us hl => match us, hl with | [_], _ => rfl) (fun F => ok_Nu F O (cst T.k_MOST_NUMBERS) (cst T.k_LARGEST_NUMBER))
  have h_polynomial_from : Has P w K mg base 2 "polynomial_from" ["handed"] (spPF K) := T.d_polynomial_from.has X G (fun _ _ _ _ _ _ us hl => match us, hl with | [_], _ => rfl) (fun F => ok_PF F h_from_handed h_without_last_zeros)
  have h_length_of_call : Has P w K mg base 1 "length_of_call" ["calls", "at"] (spLC K) := T.d_length_of_call.has X G (fun _ _ _ _ _ _ us hl => match us, hl with | [_, _], _ => rfl) (fun F => ok_LC F NN)
  have m_take_polynomial : HasM P w K mg base C 3 "take_polynomial" ["self", "handed"] (spPl K C) := T.e_take_polynomial.has (fun _ _ _ _ _ _ us hl => match us, hl with | [_, _], _ => rfl) (fun F => ok_Pl F TT h_takes_numbers h_polynomial_from h_counted)
  have m_take_product : HasM P w K mg base C 3 "take_product" ["self", "handed"] (spTi K C) := T.e_take_product.has (fun _ _ _ _ _ _ us hl => match us, hl with | [_, _], _ => rfl) (fun F => ok_Ti F TT (cst T.k_MOST_NUMBERS_OF_PRODUCT) h_takes_numbers h_polynomial_from h_counted h_product)
  have m_take_moved : HasM P w K mg base C 3 "take_moved" ["self", "handed"] (spMo K C) := T.e_take_moved.has (fun _ _ _ _ _ _ us hl => match us, hl with | [_, _], _ => rfl) (fun F => ok_Mo F TT (cst T.k_LARGEST_MOVE) h_from_handed h_moved h_counted)
  have m_take_prime : HasM P w K mg base C 1 "take_prime" ["self", "prime"] (spTP K C) := T.e_take_prime.has (fun _ _ _ _ _ _ us hl => match us, hl with | [_, _], _ => rfl) (fun F => ok_TP F TT (PySem.W.mg_of X G gP) kP)
  have m_tell_times_divided : HasM P w K mg base C 2 "tell_times_divided" ["self", "number"] (spTT C) := T.e_tell_times_divided.has (fun _ _ _ _ _ _ us hl => match us, hl with | [_, _], _ => rfl) (fun F => ok_TT F TT h_times_divided)
  have m_takes_power : HasM P w K mg base C 2 "takes_power" ["self", "k"] (spTk C) := T.e_takes_power.has (fun _ _ _ _ _ _ us hl => match us, hl with | [_, _], _ => rfl) (fun F => ok_Tk F TT (cst T.k_LARGEST_K) (cst T.k_LARGEST_POWER) h_power_of)
  have m_tell_roots : HasM P w K mg base C 6 "tell_roots" ["self", "k"] (spTR C) := T.e_tell_roots.has (fun _ _ _ _ _ _ us hl => match us, hl with | [_, _], _ => rfl) (fun F => ok_TR F TT m_takes_power h_roots_of_powers h_counted)
  have m_tell_roots_gone_on_to : HasM P w K mg base C 4 "tell_roots_gone_on_to" ["self", "k", "x"] (spTN C) := T.e_tell_roots_gone_on_to.has (fun _ _ _ _ _ _ us hl => match us, hl with | [_, _, _], _ => rfl) (fun F => ok_TN F TT m_takes_power h_power_of h_is_root h_counted h_roots_gone_on_to)
  have m_tell_counts : HasM P w K mg base C 6 "tell_counts" ["self", "k"] (spTC C) := T.e_tell_counts.has (fun _ _ _ _ _ _ us hl => match us, hl with | [_, _], _ => rfl) (fun F => ok_TC F TT m_takes_power h_roots_of_powers)
  have m_tell_lifted : HasM P w K mg base C 5 "tell_lifted" ["self", "x", "times"] (spTL C) := T.e_tell_lifted.has (fun _ _ _ _ _ _ us hl => match us, hl with | [_, _, _], _ => rfl) (fun F => ok_TL F TT (cst T.k_MOST_TIMES_LIFTED) h_is_simple_root h_lifted h_digits_of)
  have m_tell_slopes : HasM P w K mg base C 5 "tell_slopes" ["self"] (spTS C) := T.e_tell_slopes.has (fun _ _ _ _ _ _ us hl => match us, hl with | [_], _ => rfl) (fun F => ok_TS F TT h_ways_of)
  have m_answer : HasM P w K mg base C 8 "answer" ["self", "call", "given"] (spAn K C) := T.e_answer.has (fun _ _ _ _ _ _ us hl => match us, hl with | [_, _, _], _ => rfl) (fun F => ok_An F TT NN h_from_handed h_value_for h_counted h_simple_roots m_take_polynomial m_take_prime m_tell_times_divided m_tell_roots m_tell_roots_gone_on_to m_tell_counts m_tell_lifted m_tell_slopes m_take_product m_take_moved)
  exact ok_As (kA := 8) (by omega) (fun_mk (st := sAs) l c kp) TT ⟨T.mks, aI, iI, T.kc⟩ (ok_In FI TT) (FI.binds fun _ _ _ _ _ _ us hl => match us, hl with | [_], _ => rfl) h_length_of_call h_counted m_answer
end LR
open PySem PySem.W PyProof.Rows
set_option maxRecDepth 100000 in
set_option maxHeartbeats 8000000 in
theorem PySem.Challenge.cw_liftedroots_s01_answers_holds : PySem.Challenge.rw_liftedroots_s01_answers.Holds := by
  w_on; k_headS; (case hw => exact ⟨[.list [.int 11]], by decide +kernel, by decide +kernel⟩)
  k_fillS
  refine L2.walk_specK (r := PySem.Challenge.rw_liftedroots_s01_answers) (k := 9) (CX := L2.CX0) (ps := ["calls"]) (sp := LR.spAns) (by decide +kernel) rfl rfl ⟨rfl, by decide, by decide⟩ (fun w h Y => PySem.W.kIn_of Y) ?F ?S (fun _ _ _ _ z => z)
  case F =>
    intro w mg fa h Y KX G hmg
    refine' LR.all_mk KX G hmg ⟨?d_from_handed, ?d_without_last_zeros, ?d_value_for, ?d_product, ?d_plus_number, ?d_moved, ?d_slope_of, ?d_times_divided, ?d_power_of, ?d_is_root, ?d_roots_gone_on_to, ?d_roots_of_next_power, ?d_roots_of_powers, ?d_is_simple_root, ?d_simple_roots, ?d_lifted, ?d_digits_of, ?d_points_of, ?d_run_of, ?d_rise_of, ?d_rises_no_more, ?d_place_of_next, ?d_greatest_common_divisor, ?d_way_between, ?d_ways_of, ?d_counted, ?d_takes_numbers, ?d_polynomial_from, ?d_length_of_call, ?d_answers, ?e_init, ?e_take_polynomial, ?e_take_product, ?e_take_moved, ?e_take_prime, ?e_tell_times_divided, ?e_takes_power, ?e_tell_roots, ?e_tell_roots_gone_on_to, ?e_tell_counts, ?e_tell_lifted, ?e_tell_slopes, ?e_answer, ?k_POLY, ?k_PRIME, ?k_VALUE, ?k_VAL, ?k_ROOTS, ?k_NEXT, ?k_COUNTS, ?k_LIFT, ?k_SLOPES, ?k_TIMES, ?k_MOVE, ?k_SHOWN, ?k_SIMPLE, ?k_MOST_NUMBERS, ?k_LARGEST_NUMBER, ?k_LARGEST_K, ?k_LARGEST_POWER, ?k_MOST_TIMES_LIFTED, ?k_MOST_NUMBERS_OF_PRODUCT, ?k_LARGEST_MOVE, ?t1, ?aC, ⟨?pg, ?hd, ?po, ?sa⟩, ?nN, ?nP, ?mks, ?kc, ?o_len, ?o_list, ?o_reversed, ?o_range, ?o_sorted, ?o_max, ?o_enumerate, ?o_abs⟩
    (case aC => k_is)
    (case pg => k_is); (case hd => k_is); (case po => k_is); (case sa => k_is); (case nN => k_is); (case nP => k_is); (case mks => k_is); (case kc => k_is)
    (case o_len => k_is)
    (case o_list => k_is)
    (case o_reversed => k_is)
    (case o_range => k_is)
    (case o_sorted => k_is)
    (case o_max => k_is)
    (case o_enumerate => k_is)
    (case o_abs => k_is)
    (case k_POLY => refine' LR.ConstIs.by ?x ?r; (case x => k_is); (case r => exact ⟨_, rfl⟩))
    (case k_PRIME => refine' LR.ConstIs.by ?x ?r; (case x => k_is); (case r => exact ⟨_, rfl⟩))
    (case k_VALUE => refine' LR.ConstIs.by ?x ?r; (case x => k_is); (case r => exact ⟨_, rfl⟩))
    (case k_VAL => refine' LR.ConstIs.by ?x ?r; (case x => k_is); (case r => exact ⟨_, rfl⟩))
    (case k_ROOTS => refine' LR.ConstIs.by ?x ?r; (case x => k_is); (case r => exact ⟨_, rfl⟩))
    (case k_NEXT => refine' LR.ConstIs.by ?x ?r; (case x => k_is); (case r => exact ⟨_, rfl⟩))
    (case k_COUNTS => refine' LR.ConstIs.by ?x ?r; (case x => k_is); (case r => exact ⟨_, rfl⟩))
    (case k_LIFT => refine' LR.ConstIs.by ?x ?r; (case x => k_is); (case r => exact ⟨_, rfl⟩))
    (case k_SLOPES => refine' LR.ConstIs.by ?x ?r; (case x => k_is); (case r => exact ⟨_, rfl⟩))
    (case k_TIMES => refine' LR.ConstIs.by ?x ?r; (case x => k_is); (case r => exact ⟨_, rfl⟩))
    (case k_MOVE => refine' LR.ConstIs.by ?x ?r; (case x => k_is); (case r => exact ⟨_, rfl⟩))
    (case k_SHOWN => refine' LR.ConstIs.by ?x ?r; (case x => k_is); (case r => exact ⟨_, rfl⟩))
    (case k_SIMPLE => refine' LR.ConstIs.by ?x ?r; (case x => k_is); (case r => exact ⟨_, rfl⟩))
    (case k_MOST_NUMBERS => refine' LR.ConstIs.by ?x ?r; (case x => k_is); (case r => exact ⟨_, rfl⟩))
    (case k_LARGEST_NUMBER => refine' LR.ConstIs.by ?x ?r; (case x => k_is); (case r => exact ⟨_, rfl⟩))
    (case k_LARGEST_K => refine' LR.ConstIs.by ?x ?r; (case x => k_is); (case r => exact ⟨_, rfl⟩))
    (case k_LARGEST_POWER => refine' LR.ConstIs.by ?x ?r; (case x => k_is); (case r => exact ⟨_, rfl⟩))
    (case k_MOST_TIMES_LIFTED => refine' LR.ConstIs.by ?x ?r; (case x => k_is); (case r => exact ⟨_, rfl⟩))
    (case k_MOST_NUMBERS_OF_PRODUCT => refine' LR.ConstIs.by ?x ?r; (case x => k_is); (case r => exact ⟨_, rfl⟩))
    (case k_LARGEST_MOVE => refine' LR.ConstIs.by ?x ?r; (case x => k_is); (case r => exact ⟨_, rfl⟩))
    (case t1 => refine' LR.TupIs.by ?x ?l ?r; (case x => k_is); (case l => k_is); (case r => exact ⟨_, _, rfl, rfl, by decide, .cons ⟨_, rfl⟩ (.cons ⟨_, rfl⟩ (.cons ⟨_, rfl⟩ (.cons ⟨_, rfl⟩ .nil)))⟩))
    (case d_from_handed => refine' LR.DefIs.by ?a ?l ?c ?k; (case a => k_is); (case l => k_is); (case c => k_is); (case k => k_is))
    (case d_without_last_zeros => refine' LR.DefIs.by ?a ?l ?c ?k; (case a => k_is); (case l => k_is); (case c => k_is); (case k => k_is))
    (case d_value_for => refine' LR.DefIs.by ?a ?l ?c ?k; (case a => k_is); (case l => k_is); (case c => k_is); (case k => k_is))
    (case d_product => refine' LR.DefIs.by ?a ?l ?c ?k; (case a => k_is); (case l => k_is); (case c => k_is); (case k => k_is))
    (case d_plus_number => refine' LR.DefIs.by ?a ?l ?c ?k; (case a => k_is); (case l => k_is); (case c => k_is); (case k => k_is))
    (case d_moved => refine' LR.DefIs.by ?a ?l ?c ?k; (case a => k_is); (case l => k_is); (case c => k_is); (case k => k_is))
    (case d_slope_of => refine' LR.DefIs.by ?a ?l ?c ?k; (case a => k_is); (case l => k_is); (case c => k_is); (case k => k_is))
    (case d_times_divided => refine' LR.DefIs.by ?a ?l ?c ?k; (case a => k_is); (case l => k_is); (case c => k_is); (case k => k_is))
    (case d_power_of => refine' LR.DefIs.by ?a ?l ?c ?k; (case a => k_is); (case l => k_is); (case c => k_is); (case k => k_is))
    (case d_is_root => refine' LR.DefIs.by ?a ?l ?c ?k; (case a => k_is); (case l => k_is); (case c => k_is); (case k => k_is))
    (case d_roots_gone_on_to => refine' LR.DefIs.by ?a ?l ?c ?k; (case a => k_is); (case l => k_is); (case c => k_is); (case k => k_is))
    (case d_roots_of_next_power => refine' LR.DefIs.by ?a ?l ?c ?k; (case a => k_is); (case l => k_is); (case c => k_is); (case k => k_is))
    (case d_roots_of_powers => refine' LR.DefIs.by ?a ?l ?c ?k; (case a => k_is); (case l => k_is); (case c => k_is); (case k => k_is))
    (case d_is_simple_root => refine' LR.DefIs.by ?a ?l ?c ?k; (case a => k_is); (case l => k_is); (case c => k_is); (case k => k_is))
    (case d_simple_roots => refine' LR.DefIs.by ?a ?l ?c ?k; (case a => k_is); (case l => k_is); (case c => k_is); (case k => k_is))
    (case d_lifted => refine' LR.DefIs.by ?a ?l ?c ?k; (case a => k_is); (case l => k_is); (case c => k_is); (case k => k_is))
    (case d_digits_of => refine' LR.DefIs.by ?a ?l ?c ?k; (case a => k_is); (case l => k_is); (case c => k_is); (case k => k_is))
    (case d_points_of => refine' LR.DefIs.by ?a ?l ?c ?k; (case a => k_is); (case l => k_is); (case c => k_is); (case k => k_is))
    (case d_run_of => refine' LR.DefIs.by ?a ?l ?c ?k; (case a => k_is); (case l => k_is); (case c => k_is); (case k => k_is))
    (case d_rise_of => refine' LR.DefIs.by ?a ?l ?c ?k; (case a => k_is); (case l => k_is); (case c => k_is); (case k => k_is))
    (case d_rises_no_more => refine' LR.DefIs.by ?a ?l ?c ?k; (case a => k_is); (case l => k_is); (case c => k_is); (case k => k_is))
    (case d_place_of_next => refine' LR.DefIs.by ?a ?l ?c ?k; (case a => k_is); (case l => k_is); (case c => k_is); (case k => k_is))
    (case d_greatest_common_divisor => refine' LR.DefIs.by ?a ?l ?c ?k; (case a => k_is); (case l => k_is); (case c => k_is); (case k => k_is))
    (case d_way_between => refine' LR.DefIs.by ?a ?l ?c ?k; (case a => k_is); (case l => k_is); (case c => k_is); (case k => k_is))
    (case d_ways_of => refine' LR.DefIs.by ?a ?l ?c ?k; (case a => k_is); (case l => k_is); (case c => k_is); (case k => k_is))
    (case d_counted => refine' LR.DefIs.by ?a ?l ?c ?k; (case a => k_is); (case l => k_is); (case c => k_is); (case k => k_is))
    (case d_takes_numbers => refine' LR.DefIs.by ?a ?l ?c ?k; (case a => k_is); (case l => k_is); (case c => k_is); (case k => k_is))
    (case d_polynomial_from => refine' LR.DefIs.by ?a ?l ?c ?k; (case a => k_is); (case l => k_is); (case c => k_is); (case k => k_is))
    (case d_length_of_call => refine' LR.DefIs.by ?a ?l ?c ?k; (case a => k_is); (case l => k_is); (case c => k_is); (case k => k_is))
    (case d_answers => refine' LR.DefIs.by ?a ?l ?c ?k; (case a => k_is); (case l => k_is); (case c => k_is); (case k => k_is))
    (case e_init => refine' LR.MethIs.by ?a ?i ?l ?c ?k; (case a => k_is); (case i => k_is); (case l => k_is); (case c => k_is); (case k => k_is))
    (case e_take_polynomial => refine' LR.MethIs.by ?a ?i ?l ?c ?k; (case a => k_is); (case i => k_is); (case l => k_is); (case c => k_is); (case k => k_is))
    (case e_take_product => refine' LR.MethIs.by ?a ?i ?l ?c ?k; (case a => k_is); (case i => k_is); (case l => k_is); (case c => k_is); (case k => k_is))
    (case e_take_moved => refine' LR.MethIs.by ?a ?i ?l ?c ?k; (case a => k_is); (case i => k_is); (case l => k_is); (case c => k_is); (case k => k_is))
    (case e_take_prime => refine' LR.MethIs.by ?a ?i ?l ?c ?k; (case a => k_is); (case i => k_is); (case l => k_is); (case c => k_is); (case k => k_is))
    (case e_tell_times_divided => refine' LR.MethIs.by ?a ?i ?l ?c ?k; (case a => k_is); (case i => k_is); (case l => k_is); (case c => k_is); (case k => k_is))
    (case e_takes_power => refine' LR.MethIs.by ?a ?i ?l ?c ?k; (case a => k_is); (case i => k_is); (case l => k_is); (case c => k_is); (case k => k_is))
    (case e_tell_roots => refine' LR.MethIs.by ?a ?i ?l ?c ?k; (case a => k_is); (case i => k_is); (case l => k_is); (case c => k_is); (case k => k_is))
    (case e_tell_roots_gone_on_to => refine' LR.MethIs.by ?a ?i ?l ?c ?k; (case a => k_is); (case i => k_is); (case l => k_is); (case c => k_is); (case k => k_is))
    (case e_tell_counts => refine' LR.MethIs.by ?a ?i ?l ?c ?k; (case a => k_is); (case i => k_is); (case l => k_is); (case c => k_is); (case k => k_is))
    (case e_tell_lifted => refine' LR.MethIs.by ?a ?i ?l ?c ?k; (case a => k_is); (case i => k_is); (case l => k_is); (case c => k_is); (case k => k_is))
    (case e_tell_slopes => refine' LR.MethIs.by ?a ?i ?l ?c ?k; (case a => k_is); (case i => k_is); (case l => k_is); (case c => k_is); (case k => k_is))
    (case e_answer => refine' LR.MethIs.by ?a ?i ?l ?c ?k; (case a => k_is); (case i => k_is); (case l => k_is); (case c => k_is); (case k => k_is))
  case S =>
    intro K H xs a hO hwi hask hx
    cases hx with
    | cons h1 h2 =>
      cases h2
      cases h1 with
      | lst hs ha =>
        have e := L2.ints_dw a.1 _ ha
        subst e
        have q : ((Codec.inLen 0 420 a.1 && a.1.all (Codec.inInt 0 4294967295)) && true) = true := hwi
        rw [Bool.and_eq_true, Bool.and_eq_true] at q
        refine ⟨_, a.1, rfl, hs, (Codec.inNat_iff.mp q.1.1).2, fun z hz => ?_, hask, fun H' p hp => .lst (L2.SqL.of hp) (L2.dw_ints _)⟩
        have hz' := List.all_eq_true.mp q.1.2 z hz
        have hz2 := Codec.inInt_iff.mp hz'
        omega
#print axioms PySem.Challenge.cw_liftedroots_s01_answers_holds
