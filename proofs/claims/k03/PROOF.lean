import PyProof.Rows.All
import Wide.All
import OpenK.AllK
import Wide.FinOn
import HandS.ForMost
import HandS.More
import HandS.IsInst
import HandS.Style
import HandS.Rev
import HandS.Wide
import HandS.EndBits
import HandS.Codes
import HandS.AnyAll
import HandS.EndTab
import KE.IntBitsLaws
import HandS.Flow
import HandS.Walk
import PySem.Challenge.RW_takeagain_k03_tried
set_option maxHeartbeats 4000000
namespace TA
/-! ### the row of steps, reversed -/
def nxt (f : Int) (R : List Int) : Int := ((R.reverse).find? (fun y => decide (R.headD 1 ≤ f * y))).getD 0
def rowR (f : Int) : Nat → List Int
  | 0 => [1]
  | n + 1 => ((rowR f n).headD 1 + nxt f (rowR f n)) :: rowR f n
def st (f : Int) (n : Nat) : Int := (rowR f n).headD 1

theorem rowR_succ (f : Int) (n : Nat) : rowR f (n + 1) = (st f n + nxt f (rowR f n)) :: rowR f n := rfl
theorem st_succ (f : Int) (n : Nat) : st f (n + 1) = st f n + nxt f (rowR f n) := rfl
theorem rowR_len (f : Int) : ∀ n, (rowR f n).length = n + 1
  | 0 => rfl
  | n + 1 => by rw [rowR_succ, List.length_cons, rowR_len f n]
theorem rowR_cons (f : Int) (n : Nat) : ∃ t, rowR f n = st f n :: t := by
  cases n with
  | zero => exact ⟨[], rfl⟩
  | succ n => exact ⟨rowR f n, rfl⟩

theorem nxt_of_split {f : Int} {n : Nat} {a b : List Int} {x : Int} (e : rowR f n = a ++ x :: b) (hb : ∀ y ∈ b, f * y < st f n) (hx : st f n ≤ f * x) :
    nxt f (rowR f n) = x := by
  have hr : (rowR f n).reverse = b.reverse ++ x :: a.reverse := by
    rw [e]; simp
  unfold nxt
  rw [hr, List.find?_append]
  have h1 : b.reverse.find? (fun y => decide ((rowR f n).headD 1 ≤ f * y)) = none := by
    rw [List.find?_eq_none]
    intro y hy
    have := hb y (List.mem_reverse.mp hy)
    have e2 : (rowR f n).headD 1 = st f n := rfl
    rw [e2]
    simp only [decide_eq_true_eq]
    omega
  rw [h1]
  have e2 : (rowR f n).headD 1 = st f n := rfl
  rw [e2, List.find?_cons_of_pos (by simpa using hx)]
  rfl

/-- every row can be split at its next part -/
theorem split_at {f : Int} (hf : 1 ≤ f) (z : Int) (hz : 1 ≤ z) : ∀ (t : List Int), ∃ a x b, z :: t = a ++ x :: b ∧ (∀ y ∈ b, f * y < z) ∧ z ≤ f * x := by
  have hzz : z ≤ f * z := by
    have := Int.mul_le_mul_of_nonneg_right hf (show (0:Int) ≤ z by omega)
    omega
  -- scan by the length of what is dropped
  have key : ∀ (l : List Int), z ≤ f * l.headD z → l ≠ [] → ∃ a x b, l = a ++ x :: b ∧ (∀ y ∈ b, f * y < z) ∧ z ≤ f * x := by
    intro l
    induction l with
    | nil => intro _ h; exact absurd rfl h
    | cons y r ih =>
      intro h _
      by_cases hr : ∀ w ∈ r, f * w < z
      · exact ⟨[], y, r, rfl, hr, h⟩
      · -- drop to the first of r that is great enough
        have : ∃ w ∈ r, z ≤ f * w := by
          apply Classical.byContradiction
          intro hn
          apply hr
          intro w hw
          apply Classical.byContradiction
          intro hq
          exact hn ⟨w, hw, by omega⟩
        obtain ⟨w, hw, hwz⟩ := this
        clear ih hr
        -- induct over r
        have scan : ∀ (r : List Int), (∃ w ∈ r, z ≤ f * w) → ∃ a x b, r = a ++ x :: b ∧ (∀ y ∈ b, f * y < z) ∧ z ≤ f * x := by
          intro r
          induction r with
          | nil => rintro ⟨w, hw, _⟩; cases hw
          | cons v s ih =>
            rintro ⟨w, hw, hwz⟩
            by_cases hs : ∃ w ∈ s, z ≤ f * w
            · obtain ⟨a, x, b, e, h1, h2⟩ := ih hs
              exact ⟨v :: a, x, b, by rw [e]; rfl, h1, h2⟩
            · have hv : w = v := by
                rcases List.mem_cons.mp hw with h | h
                · exact h
                · exact absurd ⟨w, h, hwz⟩ hs
              refine ⟨[], v, s, rfl, fun y hy => ?_, by rw [← hv]; exact hwz⟩
              apply Classical.byContradiction
              intro hq
              exact hs ⟨y, hy, by omega⟩
        obtain ⟨a, x, b, e, h1, h2⟩ := scan r ⟨w, hw, hwz⟩
        exact ⟨y :: a, x, b, by rw [e]; rfl, h1, h2⟩
  intro t
  exact key (z :: t) hzz (by simp)

/-- what holds of every row -/
theorem row_facts {f : Int} (hf : 1 ≤ f) : ∀ n, (∀ y ∈ rowR f n, 1 ≤ y) ∧ (rowR f n).Pairwise (fun a b => b < a)
  | 0 => by
    refine ⟨fun y hy => ?_, ?_⟩
    · simp [rowR] at hy; omega
    · simp [rowR]
  | n + 1 => by
    obtain ⟨h1, h2⟩ := row_facts hf n
    obtain ⟨t, et⟩ := rowR_cons f n
    have hz : 1 ≤ st f n := h1 _ (by rw [et]; exact List.mem_cons_self)
    obtain ⟨a, x, b, e, hb, hx⟩ := split_at hf (st f n) hz t
    rw [← et] at e
    have ex := nxt_of_split e hb hx
    have hx1 : 1 ≤ x := h1 x (by rw [e]; simp)
    rw [rowR_succ, ex]
    refine ⟨fun y hy => ?_, List.pairwise_cons.mpr ⟨fun y hy => ?_, h2⟩⟩
    · rcases List.mem_cons.mp hy with h | h
      · omega
      · exact h1 y h
    · rw [et] at hy h2
      rcases List.mem_cons.mp hy with h | h
      · omega
      · have := (List.pairwise_cons.mp h2).1 y h
        omega
theorem row_split {f : Int} (hf : 1 ≤ f) (n : Nat) : ∃ a x b, rowR f n = a ++ x :: b ∧ (∀ y ∈ b, f * y < st f n) ∧ st f n ≤ f * x ∧ nxt f (rowR f n) = x ∧ 1 ≤ x ∧ x ≤ st f n := by
  obtain ⟨h1, h2⟩ := row_facts hf n
  obtain ⟨t, et⟩ := rowR_cons f n
  have hz : 1 ≤ st f n := h1 _ (by rw [et]; exact List.mem_cons_self)
  obtain ⟨a, x, b, e, hb, hx⟩ := split_at hf (st f n) hz t
  rw [← et] at e
  have hm : x ∈ rowR f n := by rw [e]; simp
  refine ⟨a, x, b, e, hb, hx, nxt_of_split e hb hx, h1 x hm, ?_⟩
  rw [et] at hm h2
  rcases List.mem_cons.mp hm with h | h
  · omega
  · have := (List.pairwise_cons.mp h2).1 x h
    omega
theorem st_pos {f : Int} (hf : 1 ≤ f) (n : Nat) : 1 ≤ st f n := by
  obtain ⟨t, et⟩ := rowR_cons f n
  exact (row_facts hf n).1 _ (by rw [et]; exact List.mem_cons_self)
theorem st_lt {f : Int} (hf : 1 ≤ f) (n : Nat) : st f n < st f (n + 1) := by
  obtain ⟨_, x, _, _, _, _, e, hx, _⟩ := row_split hf n
  rw [st_succ, e]; omega
theorem st_mono {f : Int} (hf : 1 ≤ f) {n : Nat} : ∀ k, st f n ≤ st f (n + k)
  | 0 => Int.le_refl _
  | k + 1 => by
    have := st_mono hf (n := n) k
    have h2 := st_lt hf (n + k)
    rw [← Nat.add_assoc]; omega
theorem st_ge {f : Int} (hf : 1 ≤ f) : ∀ n : Nat, (n : Int) + 1 ≤ st f n
  | 0 => by show (0 : Int) + 1 ≤ 1; decide
  | n + 1 => by
    have := st_ge hf n
    have h2 := st_lt hf n
    omega
theorem row_le {f : Int} (hf : 1 ≤ f) (n : Nat) {y : Int} (h : y ∈ rowR f n) : y ≤ st f n := by
  obtain ⟨t, et⟩ := rowR_cons f n
  have h2 := (row_facts hf n).2
  rw [et] at h h2
  rcases List.mem_cons.mp h with e | e
  · omega
  · have := (List.pairwise_cons.mp h2).1 y e
    omega
/-! growth -/
theorem st_grow {f : Int} (hf : 1 ≤ f) (n : Nat) : ∀ k : Nat, f * st f n + (k : Int) * st f n ≤ f * st f (n + k)
  | 0 => by simp
  | k + 1 => by
    have ih := st_grow hf n k
    obtain ⟨_, x, _, _, _, hx, e, _, _⟩ := row_split hf (n + k)
    have hm := st_mono hf (n := n) k
    rw [← Nat.add_assoc, st_succ, e, Int.mul_add]
    have e1 : ((k + 1 : Nat) : Int) * st f n = (k : Int) * st f n + st f n := by
      rw [Int.natCast_add, Int.add_mul]; simp
    rw [e1]; omega
theorem st_double {f : Int} (hf : 1 ≤ f) (h30 : f ≤ 30) (n : Nat) : 2 * st f n ≤ st f (n + 30) := by
  have h := st_grow hf n 30
  have hz := st_pos hf n
  have h2 : f * st f n ≤ 30 * st f n := Int.mul_le_mul_of_nonneg_right h30 (by omega)
  have h3 : f * (2 * st f n) ≤ f * st f (n + 30) := by
    have e : f * (2 * st f n) = 2 * (f * st f n) := by rw [← Int.mul_assoc, Int.mul_comm f 2, Int.mul_assoc]
    rw [e]
    have : ((30 : Nat) : Int) * st f n = 30 * st f n := by simp
    omega
  exact Int.le_of_mul_le_mul_left h3 (by omega)
theorem st_pow {f : Int} (hf : 1 ≤ f) (h30 : f ≤ 30) : ∀ m : Nat, (2 : Int) ^ m ≤ st f (30 * m)
  | 0 => Int.le_refl 1
  | m + 1 => by
    have ih := st_pow hf h30 m
    have h := st_double hf h30 (30 * m)
    have e : 30 * (m + 1) = 30 * m + 30 := by omega
    rw [e, Int.pow_succ]
    omega
/-- a step below 2 ^ B has a small number -/
theorem st_small {f : Int} (hf : 1 ≤ f) (h30 : f ≤ 30) {n B : Nat} (h : st f n < (2 : Int) ^ B) : n < 30 * B := by
  apply Nat.lt_of_not_le
  intro hn
  have h1 := st_pow hf h30 B
  obtain ⟨k, rfl⟩ : ∃ k, n = 30 * B + k := ⟨n - 30 * B, by omega⟩
  have h2 := st_mono hf (n := 30 * B) k
  omega

/-! ### the greedy sum -/
def gr : List Int → Int → List Int
  | [], _ => []
  | s :: l, h => if s ≤ h then s :: gr l (h - s) else gr l h
theorem gr_nil (h : Int) : gr [] h = [] := rfl
theorem gr_pos {s h : Int} {l : List Int} (c : s ≤ h) : gr (s :: l) h = s :: gr l (h - s) := if_pos c
theorem gr_neg {s h : Int} {l : List Int} (c : ¬ s ≤ h) : gr (s :: l) h = gr l h := if_neg c
def Ch (f : Int) : List Int → Prop
  | a :: b :: r => f * b < a ∧ Ch f (b :: r)
  | _ => True
theorem gr_mem : ∀ (l : List Int) (h : Int), (∀ y ∈ l, 0 ≤ y) → ∀ y ∈ gr l h, y ∈ l ∧ y ≤ h
  | [], _, _, y, hy => by simp [gr] at hy
  | s :: l, h, hp, y, hy => by
    have hs := hp s List.mem_cons_self
    have hl : ∀ y ∈ l, 0 ≤ y := fun y h => hp y (List.mem_cons_of_mem _ h)
    unfold gr at hy
    split at hy
    · rcases List.mem_cons.mp hy with e | e
      · subst e; exact ⟨List.mem_cons_self, by assumption⟩
      · obtain ⟨h1, h2⟩ := gr_mem l _ hl y e
        exact ⟨List.mem_cons_of_mem _ h1, by omega⟩
    · obtain ⟨h1, h2⟩ := gr_mem l _ hl y hy
      exact ⟨List.mem_cons_of_mem _ h1, h2⟩
theorem gr_filter : ∀ (l : List Int) (h N : Int), h ≤ N → (∀ y ∈ l, 0 ≤ y) → gr (l.filter (fun y => decide (y ≤ N))) h = gr l h
  | [], _, _, _, _ => rfl
  | s :: l, h, N, hN, hp => by
    have hs := hp s List.mem_cons_self
    have hl : ∀ y ∈ l, 0 ≤ y := fun y h => hp y (List.mem_cons_of_mem _ h)
    by_cases c : s ≤ N
    · rw [List.filter_cons_of_pos (by simpa using c)]
      unfold gr
      rw [gr_filter l h N hN hl, gr_filter l (h - s) N (by omega) hl]
    · rw [List.filter_cons_of_neg (by simpa using c), gr_filter l h N hN hl]
      conv => rhs; unfold gr
      rw [if_neg (by omega)]
theorem gr_main {f : Int} (hf : 1 ≤ f) : ∀ (n : Nat) (h : Int), 0 ≤ h → h < st f n → (gr (rowR f n) h).sum = h ∧ Ch f (gr (rowR f n) h)
  | 0, h, h0, h1 => by
    have : st f 0 = 1 := rfl
    have e : h = 0 := by omega
    subst e
    exact ⟨rfl, trivial⟩
  | n + 1, h, h0, h1 => by
    rw [rowR_succ, ← st_succ]
    unfold gr
    rw [if_neg (by omega)]
    by_cases c : h < st f n
    · exact gr_main hf n h h0 c
    · -- the step of n is taken
      obtain ⟨a, x, b, e, hb, hx, en, hx1, hx2⟩ := row_split hf n
      rw [st_succ, en] at h1
      have hl : h - st f n < st f n := by omega
      obtain ⟨i1, i2⟩ := gr_main hf n (h - st f n) (by omega) hl
      obtain ⟨t, et⟩ := rowR_cons f n
      have hgt : gr (rowR f n) (h - st f n) = gr t (h - st f n) := by
        rw [et]; unfold gr; rw [if_neg (by omega)]; cases t <;> rfl
      have hg : gr (rowR f n) h = st f n :: gr t (h - st f n) := by
        rw [et]; unfold gr; rw [if_pos (by omega)]; cases t <;> rfl
      rw [hg, ← hgt]
      refine ⟨by rw [List.sum_cons, i1]; omega, ?_⟩
      -- the chain
      have hmem := gr_mem (rowR f n) (h - st f n) (fun y hy => by have := (row_facts hf n).1 y hy; omega)
      revert i2 hmem
      generalize gr (rowR f n) (h - st f n) = G
      intro i2 hmem
      cases G with
      | nil => trivial
      | cons y r =>
        refine ⟨?_, i2⟩
        obtain ⟨m1, m2⟩ := hmem y List.mem_cons_self
        have hyx : y < x := by omega
        have hp := (row_facts hf n).2
        rw [e] at m1 hp
        rcases List.mem_append.mp m1 with q | q
        · have := (List.pairwise_append.mp hp).2.2 y q x List.mem_cons_self
          omega
        · rcases List.mem_cons.mp q with q | q
          · omega
          · exact hb y q
/-- a longer row tells the same -/
theorem gr_longer {f : Int} (hf : 1 ≤ f) {n : Nat} {h : Int} (h1 : h < st f n) : ∀ k, gr (rowR f (n + k)) h = gr (rowR f n) h
  | 0 => rfl
  | k + 1 => by
    have ih := gr_longer hf h1 k
    have h2 := st_mono hf (n := n) (k + 1)
    rw [← Nat.add_assoc] at h2 ⊢
    rw [rowR_succ, ← st_succ]
    conv => lhs; unfold gr
    rw [if_neg (by omega), ih]
theorem gr_same {f : Int} (hf : 1 ≤ f) {n m : Nat} {h : Int} (h1 : h < st f n) (h2 : h < st f m) : gr (rowR f n) h = gr (rowR f m) h := by
  by_cases c : n ≤ m
  · obtain ⟨k, rfl⟩ : ∃ k, m = n + k := ⟨m - n, by omega⟩
    exact (gr_longer hf h1 k).symm
  · obtain ⟨k, rfl⟩ : ∃ k, n = m + k := ⟨n - m, by omega⟩
    exact gr_longer hf h2 k
/-- the sum by the factor that comes to h -/
def parts (f h : Int) : List Int := gr (rowR f h.toNat) h
theorem parts_of {f : Int} (hf : 1 ≤ f) {n : Nat} {h : Int} (h0 : 0 ≤ h) (h1 : h < st f n) : gr (rowR f n) h = parts f h := by
  refine gr_same hf h1 ?_
  have := st_ge hf h.toNat
  omega
theorem parts_ok {f : Int} (hf : 1 ≤ f) {h : Int} (h0 : 0 ≤ h) : (parts f h).sum = h ∧ Ch f (parts f h) := by
  have := st_ge hf h.toNat
  exact gr_main hf h.toNat h h0 (by omega)
theorem parts_mem {f : Int} (hf : 1 ≤ f) {h : Int} : ∀ y ∈ parts f h, 1 ≤ y ∧ y ≤ h := fun y hy => by
  obtain ⟨h1, h2⟩ := gr_mem (rowR f h.toNat) h (fun y hy => by have := (row_facts hf _).1 y hy; omega) y hy
  exact ⟨(row_facts hf _).1 y h1, h2⟩
theorem ch_get {f : Int} : ∀ (l : List Int) (i : Nat) (a b : Int), Ch f l → l[i]? = some a → l[i + 1]? = some b → f * b < a
  | [], _, _, _, _, h, _ => by simp at h
  | [_], 0, _, _, _, _, h => by simp at h
  | [_], i + 1, _, _, _, h, _ => by simp at h
  | x :: y :: r, 0, a, b, hc, h1, h2 => by
    have e1 : x = a := Option.some.inj h1
    have e2 : y = b := Option.some.inj h2
    rw [← e1, ← e2]; exact hc.1
  | x :: y :: r, i + 1, a, b, hc, h1, h2 => ch_get (y :: r) i a b hc.2 h1 h2
end TA
set_option maxHeartbeats 4000000
namespace TA
/-- a place of the row from which on the next part stands -/
def Place (f : Int) (n : Nat) (p : Int) : Prop := ∃ a x b, rowR f n = a ++ x :: b ∧ p = (b.length : Int) ∧ ∀ y ∈ b, f * y < st f n
def row (f : Int) (n : Nat) : List Int := (rowR f n).reverse
theorem row_length (f : Int) (n : Nat) : (row f n).length = n + 1 := by unfold row; rw [List.length_reverse, rowR_len]
theorem row_succ (f : Int) (n : Nat) : row f (n + 1) = row f n ++ [st f (n + 1)] := by
  unfold row; rw [rowR_succ, ← st_succ, List.reverse_cons]
theorem row_init (f : Int) : row f 0 = [1] := rfl
theorem row_last (f : Int) (n : Nat) : ∃ l, row f n = l ++ [st f n] := by
  obtain ⟨t, e⟩ := rowR_cons f n
  exact ⟨t.reverse, by unfold row; rw [e, List.reverse_cons]⟩
theorem place_zero (f : Int) : Place f 0 0 := ⟨[], 1, [], rfl, rfl, fun y hy => by cases hy⟩
theorem place_at {f : Int} (hf : 1 ≤ f) {n : Nat} {p : Int} (h : Place f n p) :
    ∃ x, (row f n)[p.toNat]? = some x ∧ 0 ≤ p ∧ p ≤ n ∧ (f * x < st f n → Place f n (p + 1) ∧ p < n) ∧ (¬ f * x < st f n → nxt f (rowR f n) = x ∧ Place f (n + 1) p) := by
  obtain ⟨a, x, b, e, rfl, hb⟩ := h
  have hlen := rowR_len f n
  rw [e] at hlen
  simp only [List.length_append, List.length_cons] at hlen
  refine ⟨x, ?_, by omega, by omega, fun hx => ?_, fun hx => ?_⟩
  · unfold row
    rw [e]
    simp
  · -- a is not empty
    have hne : a ≠ [] := by
      intro ha
      subst ha
      obtain ⟨t, et⟩ := rowR_cons f n
      rw [et] at e
      have exz : st f n = x := (List.cons.inj e).1
      have hz := st_pos hf n
      have := Int.mul_le_mul_of_nonneg_right hf (show (0 : Int) ≤ x by omega)
      omega
    obtain ⟨a', x', rfl⟩ : ∃ a' x', a = a' ++ [x'] := ⟨a.dropLast, a.getLast hne, (List.dropLast_concat_getLast hne).symm⟩
    simp only [List.length_append, List.length_cons, List.length_nil] at hlen
    refine ⟨⟨a', x', x :: b, by rw [e]; simp, by simp, fun y hy => ?_⟩, by omega⟩
    rcases List.mem_cons.mp hy with q | q
    · rw [q]; exact hx
    · exact hb y q
  · have en := nxt_of_split e hb (by omega)
    refine ⟨en, ⟨(st f (n + 1)) :: a, x, b, by rw [rowR_succ, ← st_succ, e]; rfl, rfl, fun y hy => ?_⟩⟩
    have := hb y hy
    have := st_lt hf n
    omega
end TA
set_option maxHeartbeats 4000000
namespace TA
theorem mem_row {f : Int} : ∀ {n : Nat} {y : Int}, y ∈ rowR f n → ∃ j, j ≤ n ∧ y = st f j
  | 0, y, h => by
    have e : y = 1 := by simpa [rowR] using h
    exact ⟨0, Nat.le_refl 0, e⟩
  | n + 1, y, h => by
    rw [rowR_succ, ← st_succ] at h
    rcases List.mem_cons.mp h with e | e
    · exact ⟨n + 1, Nat.le_refl _, e⟩
    · obtain ⟨j, h1, h2⟩ := mem_row e
      exact ⟨j, by omega, h2⟩
theorem st_mem (f : Int) {j : Nat} : ∀ k, st f j ∈ rowR f (j + k)
  | 0 => by
    obtain ⟨t, e⟩ := rowR_cons f j
    show st f j ∈ rowR f j
    rw [e]
    exact List.mem_cons_self
  | k + 1 => by rw [← Nat.add_assoc, rowR_succ]; exact List.mem_cons_of_mem _ (st_mem f k)
theorem st_mono2 {f : Int} (hf : 1 ≤ f) {i j : Nat} (h : i ≤ j) : st f i ≤ st f j := by
  obtain ⟨k, rfl⟩ : ∃ k, j = i + k := ⟨j - i, by omega⟩
  exact st_mono hf k
theorem st_mono3 {f : Int} (hf : 1 ≤ f) {i j : Nat} (h : i < j) : st f i < st f j := by
  have h1 := st_lt hf i
  have h2 := st_mono2 hf (show i + 1 ≤ j from h)
  omega
theorem st_lt_of {f : Int} (hf : 1 ≤ f) {i j : Nat} (h : st f i < st f j) : i < j := by
  apply Nat.lt_of_not_le
  intro c
  have := st_mono2 hf c
  omega
/-- the next step: the row's last and the least that, times the factor, is no less -/
theorem nxt_least {f : Int} (hf : 1 ≤ f) (i : Nat) : ∃ j, j ≤ i ∧ st f (i + 1) = st f i + st f j ∧ st f i ≤ f * st f j ∧ ∀ m, m < j → f * st f m < st f i := by
  obtain ⟨a, x, b, e, hb, hx, en, hx1, hx2⟩ := row_split hf i
  have hm : x ∈ rowR f i := by rw [e]; simp
  obtain ⟨j, hj, ej⟩ := mem_row hm
  subst ej
  refine ⟨j, hj, by rw [st_succ, en], hx, fun m hmj => ?_⟩
  have hlt := st_mono3 hf hmj
  obtain ⟨k, ek⟩ : ∃ k, i = m + k := ⟨i - m, by omega⟩
  have hmem : st f m ∈ rowR f i := by rw [ek]; exact st_mem f k
  have hp := (row_facts hf i).2
  rw [e] at hmem hp
  rcases List.mem_append.mp hmem with q | q
  · have := (List.pairwise_append.mp hp).2.2 _ q _ List.mem_cons_self
    omega
  · rcases List.mem_cons.mp q with q | q
    · omega
    · exact hb _ q
theorem top_step {f : Int} (hf : 1 ≤ f) {h : Int} (h1 : 1 ≤ h) : ∃ i, st f i ≤ h ∧ h < st f (i + 1) := by
  have key : ∀ n : Nat, h < st f n → ∃ i, st f i ≤ h ∧ h < st f (i + 1) := by
    intro n
    induction n with
    | zero => intro q; have : st f 0 = 1 := rfl; omega
    | succ n ih =>
      intro q
      by_cases c : h < st f n
      · exact ih c
      · exact ⟨n, by omega, q⟩
  have := st_ge hf h.toNat
  exact key h.toNat (by omega)
theorem sum_one {S : List Int} {g : Int → Int} {a v : Int} : S.Nodup → a ∈ S → g a = v → (∀ b ∈ S, b ≠ a → g b = 0) → (S.map g).sum = v := by
  induction S with
  | nil => intro _ h; cases h
  | cons b r ih =>
    intro hn ha hg h0
    rw [List.map_cons, List.sum_cons]
    obtain ⟨n1, n2⟩ := List.nodup_cons.mp hn
    rcases List.mem_cons.mp ha with e | e
    · subst e
      have hz : ∀ l : List Int, (∀ b ∈ l, g b = 0) → (l.map g).sum = 0 := by
        intro l
        induction l with
        | nil => intro _; rfl
        | cons c r ih2 =>
          intro hc
          rw [List.map_cons, List.sum_cons, hc c List.mem_cons_self, ih2 fun b hb => hc b (List.mem_cons_of_mem _ hb)]
          rfl
      rw [hg, hz r fun b hb => h0 b (List.mem_cons_of_mem _ hb) (fun q => n1 (q ▸ hb))]
      omega
    · have hne : b ≠ a := fun q => n1 (q ▸ e)
      rw [h0 b List.mem_cons_self hne, ih n2 e hg fun c hc => h0 c (List.mem_cons_of_mem _ hc)]
      omega
def ways (f : Int) (steps : List Int) : Nat → Int → Int → Int
  | 0, _, _ => 1
  | n + 1, number, most => if number = 0 then 1 else (steps.map fun s => if s ≤ number ∧ f * s < most then ways f steps n (number - s) s else 0).sum
/-- the steps that are no more than N, of a row that is long enough -/
def below (f : Int) (n : Nat) (N : Int) : List Int := (row f n).filter (fun y => decide (y ≤ N))
theorem ways_zero (f : Int) (S : List Int) (m : Nat) (most : Int) : ways f S m 0 most = 1 := by
  cases m with
  | zero => rfl
  | succ m => unfold ways; rw [if_pos rfl]
/-- just one sum comes to a number -/
theorem ways_top {f : Int} (hf : 1 ≤ f) {n : Nat} {N : Int} (hN : N < st f n) : ∀ (m : Nat) (num most : Int) (i : Nat), 0 < num → num ≤ m → num ≤ N → st f i ≤ num → num < st f (i + 1) →
    ways f (below f n N) m num most = if f * st f i < most then 1 else 0
  | 0, num, most, i, h0, h1, _, _, _ => by omega
  | m + 1, num, most, i, h0, h1, h2, h3, h4 => by
    unfold ways
    rw [if_neg (by omega)]
    have hin : i < n := st_lt_of hf (by omega)
    have hmem : st f i ∈ below f n N := by
      unfold below row
      refine List.mem_filter.mpr ⟨List.mem_reverse.mpr ?_, decide_eq_true (by omega)⟩
      obtain ⟨k, ek⟩ : ∃ k, n = i + k := ⟨n - i, by omega⟩
      rw [ek]
      exact st_mem f k
    have hnd : (below f n N).Nodup := by
      unfold below row
      refine List.Nodup.sublist List.filter_sublist ?_
      exact List.pairwise_reverse.mpr ((row_facts hf n).2.imp (fun {a b} h e => by omega))
    refine sum_one hnd hmem ?_ ?_
    · by_cases c : f * st f i < most
      · rw [if_pos ⟨h3, c⟩, if_pos c]
        obtain ⟨j, hj, ej, hx, hl⟩ := nxt_least hf i
        rcases Int.lt_or_eq_of_le (show 0 ≤ num - st f i by omega) with q | q
        · obtain ⟨i', t1, t2⟩ := top_step hf (show 1 ≤ num - st f i by omega)
          have hp := st_pos hf i
          rw [ways_top hf hN m (num - st f i) (st f i) i' q (by omega) (by omega) t1 t2]
          have : i' < j := st_lt_of hf (by omega)
          rw [if_pos (hl i' this)]
        · rw [← q]
          exact ways_zero _ _ _ _
      · rw [if_neg (fun z => c z.2), if_neg c]
    · intro b hb hne
      have hb' : b ∈ rowR f n := by
        unfold below row at hb
        exact List.mem_reverse.mp (List.mem_filter.mp hb).1
      obtain ⟨k, hk, rfl⟩ := mem_row hb'
      by_cases c : st f k ≤ num ∧ f * st f k < most
      · rw [if_pos c]
        have hki : k < i := by
          have c1 := c.1
          have : k < i + 1 := st_lt_of hf (by omega)
          have : k ≠ i := fun e => hne (by rw [e])
          omega
        obtain ⟨j, hj, ej, hx, hl⟩ := nxt_least hf k
        have hle := st_mono2 hf (show k + 1 ≤ i from hki)
        have hpj := st_pos hf j
        have hpk := st_pos hf k
        obtain ⟨i', t1, t2⟩ := top_step hf (show 1 ≤ num - st f k by omega)
        rw [ways_top hf hN m (num - st f k) (st f k) i' (by omega) (by omega) (by omega) t1 t2]
        have hji : j ≤ i' := by
          have : j < i' + 1 := st_lt_of hf (by omega)
          omega
        have hm := Int.mul_le_mul_of_nonneg_left (st_mono2 hf hji) (show 0 ≤ f by omega)
        rw [if_neg (by omega)]
      · rw [if_neg c]
theorem ways_all {f : Int} (hf : 1 ≤ f) {n : Nat} (hN : (40 : Int) < st f n) {k : Int} (k0 : 1 ≤ k) (k1 : k ≤ 40) : ways f (below f n 40) 40 k (f * 41 + 1) = 1 := by
  obtain ⟨i, t1, t2⟩ := top_step hf k0
  rw [ways_top hf hN 40 k (f * 41 + 1) i (by omega) (by omega) k1 t1 t2]
  have hm := Int.mul_le_mul_of_nonneg_left (show st f i ≤ 41 by omega) (show 0 ≤ f by omega)
  rw [if_pos (by omega)]
theorem st_one : ∀ n, st 1 n = 2 ^ n
  | 0 => rfl
  | n + 1 => by
    obtain ⟨_, x, _, _, _, hx, e, _, hle⟩ := row_split (f := 1) (Int.le_refl 1) n
    have ih := st_one n
    rw [st_succ, e, Int.pow_succ]
    omega
theorem c1 : [st 2 0, st 2 1, st 2 2, st 2 3, st 2 4, st 2 5] = [1, 2, 3, 5, 8, 13] := by decide +kernel
theorem c2 : [st 3 0, st 3 1, st 3 2, st 3 3, st 3 4, st 3 5, st 3 6] = [1, 2, 3, 4, 6, 8, 11] := by decide +kernel
theorem c3 : parts 2 100 = [89, 8, 3] := by
  rw [← parts_of (f := 2) (by decide) (n := 10) (by decide) (by decide +kernel)]
  decide +kernel
theorem c5 : parts 1 13 = [8, 4, 1] := by
  rw [← parts_of (f := 1) (by decide) (n := 4) (by decide) (by decide +kernel)]
  decide +kernel
end TA
set_option maxHeartbeats 4000000
namespace TA
theorem parts_zero (f : Int) : parts f 0 = [] := rfl
/-- the greatest step that fits is the first part -/
theorem parts_cons {f : Int} (hf : 1 ≤ f) {i : Nat} {h : Int} (h1 : st f i ≤ h) (h2 : h < st f (i + 1)) : parts f h = st f i :: parts f (h - st f i) := by
  have hz := st_pos hf i
  rw [← parts_of hf (n := i + 1) (by omega) h2, rowR_succ, ← st_succ, gr_neg (by omega)]
  obtain ⟨a, x, b, e, hb, hx, en, hx1, hx2⟩ := row_split hf i
  rw [st_succ, en] at h2
  obtain ⟨t, et⟩ := rowR_cons f i
  have e1 : parts f (h - st f i) = gr t (h - st f i) := by
    rw [← parts_of hf (n := i) (by omega) (show h - st f i < st f i by omega), et, gr_neg (by omega)]
  rw [e1, et, gr_pos h1]
theorem parts_head {f : Int} (hf : 1 ≤ f) {h : Int} (h1 : 1 ≤ h) : ∃ i, st f i ≤ h ∧ h < st f (i + 1) ∧ parts f h = st f i :: parts f (h - st f i) := by
  obtain ⟨i, a, b⟩ := top_step hf h1
  exact ⟨i, a, b, parts_cons hf a b⟩
theorem parts_pos {f : Int} (hf : 1 ≤ f) {h : Int} (h0 : 0 ≤ h) (ne : parts f h ≠ []) : 1 ≤ h := by
  have : h ≠ 0 := fun e => ne (by rw [e]; rfl)
  omega
/-- the last part away, a lesser number in its place -/
theorem parts_swap {f : Int} (hf : 1 ≤ f) : ∀ (m : List Int) {h s r : Int}, 0 ≤ h → parts f h = m ++ [s] → 0 ≤ r → r < s → parts f (h - s + r) = m ++ parts f r
  | [], h, s, r, h0, e, r0, rs => by
    have hsum := (parts_ok hf h0).1
    rw [e] at hsum
    have : s = h := by simpa using hsum
    rw [this]
    have e2 : h - h + r = r := by omega
    rw [e2]
    rfl
  | x :: m, h, s, r, h0, e, r0, rs => by
    have h1 := parts_pos hf h0 (by rw [e]; simp)
    obtain ⟨i, a, b, c⟩ := parts_head hf h1
    rw [c] at e
    have ex : st f i = x := (List.cons.inj e).1
    have er : parts f (h - st f i) = m ++ [s] := (List.cons.inj e).2
    have hle : s ≤ h - st f i := (parts_mem hf s (by rw [er]; simp)).2
    have ih := parts_swap hf m (show 0 ≤ h - st f i by omega) er r0 rs
    rw [parts_cons hf (i := i) (show st f i ≤ h - s + r by omega) (by omega), ex]
    have e3 : h - s + r - x = h - st f i - s + r := by omega
    rw [e3, ih]
    rfl
theorem parts_but {f : Int} (hf : 1 ≤ f) {m : List Int} {h s : Int} (h0 : 0 ≤ h) (e : parts f h = m ++ [s]) : parts f (h - s) = m := by
  have hs := (parts_mem hf s (by rw [e]; simp)).1
  have := parts_swap hf m h0 e (Int.le_refl 0) (by omega)
  rw [Int.add_zero, parts_zero, List.append_nil] at this
  exact this
/-- the part ahead of the last one -/
theorem ch_last {f : Int} : ∀ (m : List Int) (y s : Int), Ch f (m ++ [y, s]) → f * s < y
  | [], _, _, h => h.1
  | [_], y, s, h => ch_last [] y s h.2
  | _ :: b :: m, y, s, h => ch_last (b :: m) y s h.2
/-- what is left of a step has a last part that is no more than f times what is away -/
theorem last_le {f : Int} (hf : 1 ≤ f) : ∀ (n i : Nat) (t : Int), i ≤ n → 0 < t → t < st f i → ∃ m z, parts f (st f i - t) = m ++ [z] ∧ z ≤ f * t
  | _, 0, t, _, h0, h1 => by
    have : st f 0 = 1 := rfl
    omega
  | 0, i + 1, _, hi, _, _ => by omega
  | n + 1, i + 1, t, hi, h0, h1 => by
    obtain ⟨k, hk, ek, hx, hl⟩ := nxt_least hf i
    have hzi := st_pos hf i
    have hzk := st_pos hf k
    rcases Int.lt_trichotomy t (st f k) with c | c | c
    · obtain ⟨m, z, e, hz⟩ := last_le hf n k t (by omega) h0 c
      refine ⟨st f i :: m, z, ?_, hz⟩
      rw [parts_cons hf (i := i) (show st f i ≤ st f (i + 1) - t by omega) (by omega)]
      have e2 : st f (i + 1) - t - st f i = st f k - t := by omega
      rw [e2, e]
      rfl
    · refine ⟨[], st f i, ?_, by rw [c]; exact hx⟩
      rw [parts_cons hf (i := i) (show st f i ≤ st f (i + 1) - t by omega) (by omega)]
      have e2 : st f (i + 1) - t - st f i = 0 := by omega
      rw [e2]
      rfl
    · obtain ⟨m, z, e, hz⟩ := last_le hf n i (t - st f k) (by omega) (by omega) (by omega)
      refine ⟨m, z, ?_, ?_⟩
      · have e2 : st f (i + 1) - t = st f i - (t - st f k) := by omega
        rw [e2, e]
      · have := Int.mul_le_mul_of_nonneg_left (show t - st f k ≤ t by omega) (show 0 ≤ f by omega)
        omega
theorem parts_step {f : Int} (hf : 1 ≤ f) : ∀ (m : List Int) {h s : Int}, 0 ≤ h → parts f h = m ++ [s] → ∃ i, s = st f i
  | [], h, s, h0, e => by
    obtain ⟨i, a, b, c⟩ := parts_head hf (parts_pos hf h0 (by rw [e]; simp))
    rw [c] at e
    exact ⟨i, (List.cons.inj e).1.symm⟩
  | x :: m, h, s, h0, e => by
    obtain ⟨i, a, b, c⟩ := parts_head hf (parts_pos hf h0 (by rw [e]; simp))
    rw [c] at e
    exact parts_step hf m (show 0 ≤ h - st f i by omega) (List.cons.inj e).2
/-- less than the last part away: the last part then is no more than f times that -/
theorem lost_none {f : Int} (hf : 1 ≤ f) {m : List Int} {h s t : Int} (h0 : 0 ≤ h) (e : parts f h = m ++ [s]) (t0 : 0 < t) (t1 : t < s) : ∃ m' z, parts f (h - t) = m' ++ [z] ∧ z ≤ f * t := by
  obtain ⟨i, rfl⟩ := parts_step hf m h0 e
  obtain ⟨m1, z, e1, hz⟩ := last_le hf i i t (Nat.le_refl i) t0 t1
  have := parts_swap hf m h0 e (show 0 ≤ st f i - t by omega) (by omega)
  refine ⟨m ++ m1, z, ?_, hz⟩
  have e2 : h - st f i + (st f i - t) = h - t := by omega
  rw [e2] at this
  rw [this, e1, List.append_assoc]
end TA
set_option Elab.async false
set_option linter.all false
set_option maxRecDepth 100000
namespace TA
open PySem L2
def top (i : Nat) : Stmt := PySem.Challenge.pw_takeagain_k03_tried.main.body.getD i (.Pass ⟨0, 0, 0, 0⟩)
abbrev sIsWhole : Stmt := top 7
abbrev sIsWholeList : Stmt := top 8
abbrev sIsTaking : Stmt := top 9
abbrev sCkFactor : Stmt := top 10
abbrev sCkHeap : Stmt := top 11
abbrev sSumOf : Stmt := top 13
abbrev sAddStep : Stmt := top 14
abbrev sRowPast : Stmt := top 15
abbrev cAnswer : Stmt := top 17
abbrev cLost : Stmt := top 18
abbrev sLostInit : Stmt := inClass (top 18) 0
abbrev sLostShows : Stmt := inClass (top 18) 1
abbrev cWon : Stmt := top 19
abbrev sWonInit : Stmt := inClass (top 19) 0
abbrev sWonShows : Stmt := inClass (top 19) 1
abbrev sIsLost : Stmt := top 20
abbrev sLeftBy : Stmt := top 21
abbrev sTold : Stmt := top 23
abbrev sCkTurn : Stmt := top 24
abbrev sCkLimit : Stmt := top 25
abbrev sCellAt : Stmt := top 27
abbrev sDraw : Stmt := top 28
abbrev sLawWon : Stmt := top 29
abbrev sRight : Stmt := top 30
abbrev sLaw : Stmt := top 31
end TA
set_option Elab.async false
set_option linter.all false
set_option maxRecDepth 100000
set_option maxHeartbeats 4000000
namespace TA
open PySem PySem.Spec PyProof.Rows L2
section
variable {P : Program} {w : World} {K : PySem.W.Frag} {mg : Str → Option Value} {base : Heap}
/-! ### is_whole -/
def spIsWhole (K : PySem.W.Frag) : Sp := fun vs H Q _ => ∃ v T m, vs = [v, .int m] ∧ TyB K H v T ∧ ((∃ n, v = .int n ∧ Q (.bl (decide (m ≤ n))) H) ∨ (T ≠ "int" ∧ Q (.bl false) H))
theorem scIsWhole : FnScope ["value", "least"] ["value", "least"] (defScope sIsWhole) := ⟨rfl, rfl, rfl, by decide +kernel, rfl, by decide +kernel, by decide +kernel⟩
theorem ok_is_whole {f : Addr} {fd : FuncData} (F : Fun K "is_whole" "is_whole" sIsWhole f fd) (mt : mg "type" = none) (mi : mg "int" = none) :
    FnOk P w K mg base CX0 1 f fd ["value", "least"] (spIsWhole K) := by
  refine F.ok scIsWhole (fun vs H Q E h => ?_) (fun cdv A outer s H vs Q E hr h => ?_)
  · obtain ⟨v, T, m, rfl, _⟩ := h
    rfl
  · obtain ⟨v, T, m, rfl, hT, h⟩ := h
    refine ⟨_, pss_one (ps_ret (pe_and (pe_cmpR op_isTy (pe_callTy call_type1 (by rfl) mt (by decide +kernel) (pa_cons (pv 0) pa_nil)) (pe_bltn (v := .ty "int") (by rfl) mi (by decide +kernel) rfl) (nomark _))
      (pe_one (pe_cmpR op_ge (pv 0) (pv 1) (nomark _))))), ?_⟩
    refine ⟨v, rfl, v, T, rfl, hT, T, "int", rfl, rfl, _, rfl, ?_⟩
    rcases h with ⟨n, rfl, q⟩ | ⟨ne, q⟩
    · cases hT
      refine iteT ⟨_, rfl, _, rfl, _, _, rfl, rfl, ?_⟩
      exact q
    · rw [decide_eq_false ne]
      exact iteF q
end
end TA
set_option Elab.async false
set_option linter.all false
set_option maxRecDepth 100000
set_option maxHeartbeats 4000000
namespace TA
open PySem PySem.Spec PyProof.Rows L2
theorem item_of {ns : List Int} {i : Nat} {y : V} (h : (ns.map V.int)[i]? = some y) : ∃ u, ns[i]? = some u ∧ y = V.int u := by
  rw [List.getElem?_map] at h
  cases e : ns[i]? with
  | none =>
    rw [e] at h
    cases h
  | some u =>
    rw [e] at h
    exact ⟨u, rfl, (Option.some.inj h).symm⟩
section
variable {P : Program} {w : World} {K : PySem.W.Frag} {mg : Str → Option Value} {base : Heap}
/-! ### the checks, of what is such -/
def spCkFactor : Sp := fun vs H Q _ => ∃ n, vs = [.int n] ∧ 1 ≤ n ∧ n ≤ 30 ∧ Q .non H
theorem scCkFactor : FnScope ["factor"] ["factor"] (defScope sCkFactor) := ⟨rfl, rfl, rfl, by decide +kernel, rfl, by decide +kernel, by decide +kernel⟩
theorem ok_ck_factor {f fW : Addr} {fd fdW : FuncData} {t : Tok} (F : Fun K "check_factor" "check_factor" sCkFactor f fd) (FW : Fun K "is_whole" "is_whole" sIsWhole fW fdW) (bW : Binds K fdW ["value", "least"] []) (gW : mg "is_whole" = some (.ref fW))
    (gG : mg "GREATEST_FACTOR" = some (.int 30 t)) (mt : mg "type" = none) (mi : mg "int" = none) :
    FnOk P w K mg base CX0 2 f fd ["factor"] spCkFactor := by
  have GW : FnOk P w K mg base CX0 1 fW fdW ["value", "least"] (spIsWhole K) := ok_is_whole FW mt mi
  refine F.ok scCkFactor (fun vs H Q E h => ?_) (fun cdv A outer s H vs Q E hr h => ?_)
  · obtain ⟨n, rfl, _⟩ := h
    rfl
  · obtain ⟨n, rfl, h1, h2, q⟩ := h
    refine ⟨_, pss_one (ps_if (PW.pt (pw_or (pt_not (pt_val (pe_call GW hr (by rfl) gW FW.kp bW .nil pass0 (pa_cons (pv 0) (pa_cons pe_int pa_nil)))))
      (pw_or1 (pt_cmpR op_gt (pv 0) (pe_glob (v := .int 30) (by rfl) gG ⟨_, rfl⟩) (nomark _))))) pss_never pss_nil), ?_⟩
    refine ⟨_, rfl, _, _, _, rfl, .int n, .inl ⟨n, rfl, _, rfl, ?_⟩⟩
    rw [decide_eq_true h1]
    refine iteF ⟨_, rfl, _, _, rfl, rfl, _, rfl, ?_⟩
    rw [decide_eq_false (by omega)]
    exact iteF q
def spCkHeap : Sp := fun vs H Q _ => ∃ n, vs = [.int n] ∧ 0 ≤ n ∧ Q .non H
theorem scCkHeap : FnScope ["heap"] ["heap"] (defScope sCkHeap) := ⟨rfl, rfl, rfl, by decide +kernel, rfl, by decide +kernel, by decide +kernel⟩
theorem ok_ck_heap {f fW : Addr} {fd fdW : FuncData} (F : Fun K "check_heap" "check_heap" sCkHeap f fd) (FW : Fun K "is_whole" "is_whole" sIsWhole fW fdW) (bW : Binds K fdW ["value", "least"] []) (gW : mg "is_whole" = some (.ref fW))
    (mt : mg "type" = none) (mi : mg "int" = none) :
    FnOk P w K mg base CX0 2 f fd ["heap"] spCkHeap := by
  have GW : FnOk P w K mg base CX0 1 fW fdW ["value", "least"] (spIsWhole K) := ok_is_whole FW mt mi
  refine F.ok scCkHeap (fun vs H Q E h => ?_) (fun cdv A outer s H vs Q E hr h => ?_)
  · obtain ⟨n, rfl, _⟩ := h
    rfl
  · obtain ⟨n, rfl, h1, q⟩ := h
    refine ⟨_, pss_one (ps_if (pt_not (pt_val (pe_call GW hr (by rfl) gW FW.kp bW .nil pass0 (pa_cons (pv 0) (pa_cons pe_int pa_nil))))) pss_never pss_nil), ?_⟩
    refine ⟨_, rfl, _, _, _, rfl, .int n, .inl ⟨n, rfl, _, rfl, ?_⟩⟩
    rw [decide_eq_true h1]
    exact iteF q
end
end TA
set_option Elab.async false
set_option linter.all false
set_option maxRecDepth 100000
set_option maxHeartbeats 4000000
namespace TA
open PySem PySem.Spec PyProof.Rows L2
theorem vlast {xs : List Int} {l : List Int} {z : Int} (e : xs = l ++ [z]) : atI (xs.map V.int) (-1) = some (.int z) := by
  rw [e, List.map_append]
  exact atI_last _ _
theorem vat {xs : List Int} {p : Int} {z : Int} (h0 : 0 ≤ p) (e : xs[p.toNat]? = some z) : atI (xs.map V.int) p = some (.int z) :=
  at_of (j := p.toNat) (by omega) (by rw [List.getElem?_map, e]; rfl)
theorem f_small {f : Int} (h1 : 1 ≤ f) (h2 : f ≤ 30) : -(2 ^ 64) < f ∧ f < 2 ^ 64 := by
  constructor
  · have : (2 : Int) ^ 64 = 18446744073709551616 := by decide
    omega
  · have : (2 : Int) ^ 64 = 18446744073709551616 := by decide
    omega
def rowV (f : Int) (n : Nat) : List V := (row f n).map V.int
theorem rowV_length (f : Int) (n : Nat) : (rowV f n).length = n + 1 := by unfold rowV; rw [List.length_map, row_length]
theorem rowV_succ (f : Int) (n : Nat) : rowV f (n + 1) = rowV f n ++ [.int (st f (n + 1))] := by unfold rowV; rw [row_succ, List.map_append]; rfl
theorem rowV_last (f : Int) (n : Nat) : atI (rowV f n) (-1) = some (.int (st f n)) := by
  obtain ⟨l, e⟩ := row_last f n
  exact vlast e
theorem small_line {n : Nat} (h : n ≤ 1000000) : n < sizeLine := Nat.lt_of_le_of_lt h (by decide)
section
variable {P : Program} {w : World} {K : PySem.W.Frag} {mg : Str → Option Value} {base : Heap}
/-! ### add_step -/
def spAddStep : Sp := fun vs H Q _ => ∃ (f : Int) (r : Addr) (p : Int) (n : Nat), vs = [.int f, .ref r, .int p] ∧ 1 ≤ f ∧ f ≤ 30 ∧ H r = some (.lst (rowV f n)) ∧ Place f n p ∧ n ≤ 10000 ∧
  ∀ p', Place f (n + 1) p' → Q (.int p') (upd H r (.lst (rowV f (n + 1))))
theorem scAddStep : FnScope ["factor", "row", "place"] ["factor", "row", "place"] (defScope sAddStep) := ⟨rfl, rfl, rfl, by decide +kernel, rfl, by decide +kernel, by decide +kernel⟩
theorem ok_add_step {f : Addr} {fd : FuncData} (F : Fun K "add_step" "add_step" sAddStep f fd) :
    FnOk P w K mg base CX0 1 f fd ["factor", "row", "place"] spAddStep := by
  refine F.ok scAddStep (fun vs H Q E h => ?_) (fun cdv A outer s H vs Q E hr h => ?_)
  · obtain ⟨f, r, p, n, rfl, _⟩ := h
    rfl
  · obtain ⟨f, r, p, n, rfl, h1, h30, hR, hp, hn, q⟩ := h
    refine ⟨_, pss_cons (ps_while PassesOwn.never (pt_cmpR op_lt (pe_op op_mul (pv 0) (pe_ix ix_list (pv 1) (pv 2) (fun _ _ => rfl))) (pe_ix ix_list (pv 1) (pe_un un_neg pe_int) (fun _ _ => rfl)) (nomark _))
        (pss_one (ps_aug (i := 2) scAddStep.nd rfl (.inl rfl) pe_int ip_add)))
      (pss_cons (ps_expr (pe_bm PySem.F.plainAttrs_list PySem.F.slot_list_append PySem.F.type_list_append mt_append (pv 1) (pa_cons (pe_op op_add (pe_ix ix_list (pv 1) (pe_un un_neg pe_int) (fun _ _ => rfl)) (pe_ix ix_list (pv 1) (pv 2) (fun _ _ => rfl))) pa_nil)))
      (pss_one (ps_ret (pv 2)))), ?_⟩
    refine ⟨fun m σ H' => H' = H ∧ ∃ p : Int, σ = [some (.int f), some (.ref r), some (.int p)] ∧ Place f n p ∧ p + m = n, ?_, ?_⟩
    · obtain ⟨x, _, a0, a1, _⟩ := place_at h1 hp
      exact ⟨(n - p).toNat, rfl, p, rfl, hp, by omega⟩
    · rintro m σ H' ⟨rfl, p, rfl, hp, em⟩
      obtain ⟨x, hx, p0, pn, more, last⟩ := place_at h1 hp
      have hL : SqL K H' r (rowV f n) := SqL.of hR
      have gx : atI (rowV f n) p = some (.int x) := vat p0 hx
      refine ⟨.int f, rfl, .ref r, rfl, .int p, rfl, r, _, _, _, rfl, rfl, hL, gx, f, x, rfl, rfl, .inl (f_small h1 h30), .ref r, rfl, 1, rfl, r, _, _, _, rfl, rfl, hL, rowV_last f n, _, _, rfl, rfl, _, rfl, ?_⟩
      refine ite2 (fun c => ?_) (fun c => ?_)
      · obtain ⟨hp', plt⟩ := more (of_decide_eq_true c)
        refine ⟨fun σ' H'' => H'' = H' ∧ σ' = [some (.int f), some (.ref r), some (.int (p + 1))], fun σ' H'' ⟨e1, e2⟩ => ⟨m - 1, by omega, e1, p + 1, e2, hp', by omega⟩, ?_⟩
        exact ⟨_, rfl, _, _, rfl, rfl, rfl, rfl⟩
      · obtain ⟨en, hp'⟩ := last (of_decide_eq_false (Bool.eq_false_iff.mpr c))
        refine ⟨.ref r, rfl, .inl ⟨rfl, _, hL⟩, .ref r, rfl, 1, rfl, r, _, _, _, rfl, rfl, hL, rowV_last f n, .ref r, rfl, .int p, rfl, r, _, _, _, rfl, rfl, hL, gx, st f n, x, rfl, rfl, r, _, _, rfl, rfl, hR, ?_, .int p, rfl, ?_⟩
        · rw [rowV_length]
          exact small_line (by omega)
        · have := q p hp'
          rw [rowV_succ, st_succ, en] at this
          exact this
end
end TA
set_option Elab.async false
set_option linter.all false
set_option maxRecDepth 100000
set_option maxHeartbeats 4000000
namespace TA
open PySem PySem.Spec PyProof.Rows L2
/-! ### == of lists of ints -/
theorem eqv_ints : ∀ as bs : List Int, PyData.eqvAll (as.map .int) (bs.map .int) = decide (as = bs)
  | [], [] => rfl
  | [], _ :: _ => rfl
  | _ :: _, [] => rfl
  | a :: as, b :: bs => by
    show (PyData.eqv (.int a) (.int b) && PyData.eqvAll (as.map .int) (bs.map .int)) = _
    rw [eqv_ints as bs]
    have e : PyData.eqv (.int a) (.int b) = decide (a = b) := by
      rw [PyData.eqv]
      by_cases h : a = b
      · subst h; simp
      · simp [h]
    rw [e]
    by_cases h : a = b
    · subst h; simp
    · simp [h]
theorem lay_ints : ∀ as : List Int, PyData.canLayAll0 (as.map .int) = true ∧ PyData.depthAll (as.map .int) = 0
  | [] => ⟨rfl, rfl⟩
  | a :: as => by
    obtain ⟨h1, h2⟩ := lay_ints as
    constructor
    · show (PyData.canLay0 (.int a) && PyData.canLayAll0 (as.map .int)) = true
      rw [h1]; simp [PyData.canLay0]
    · show max (PyData.depth (.int a)) (PyData.depthAll (as.map .int)) = 0
      rw [h2]; simp [PyData.depth]
theorem shaped_ints (as : List Int) : SeqAt.shaped (.list (as.map .int)) = true := by
  obtain ⟨h1, h2⟩ := lay_ints as
  unfold SeqAt.shaped
  have e1 : PyData.canLay0 (.list (as.map .int)) = true := by simp only [PyData.canLay0]; exact h1
  have e2 : PyData.depth (.list (as.map .int)) ≤ 64 := by simp only [PyData.depth]; rw [h2]; decide
  rw [e1, decide_eq_true e2]; rfl
theorem dp_all {K : PySem.W.Frag} {H : Hp} : ∀ ns : List Int, DpAll K H (ns.map V.int) (ns.map PyData.int)
  | [] => .nil
  | n :: ns => .cons (.int n) (dp_all ns)
theorem dp_ints {K : PySem.W.Frag} {H : Hp} {a : Addr} {ns : List Int} (h : SqL K H a (ns.map V.int)) : Dp K H (.ref a) (.list (ns.map PyData.int)) := .lst h (dp_all ns)
def rEqL (K : PySem.W.Frag) : R2 := fun x y H Q => ∃ (a b : Addr) (xs ys : List Int), x = .ref a ∧ y = .ref b ∧ SqL K H a (xs.map V.int) ∧ SqL K H b (ys.map V.int) ∧ Q (.bl (decide (xs = ys))) H
def rNeL (K : PySem.W.Frag) : R2 := fun x y H Q => ∃ (a b : Addr) (xs ys : List Int), x = .ref a ∧ y = .ref b ∧ SqL K H a (xs.map V.int) ∧ SqL K H b (ys.map V.int) ∧ Q (.bl (!decide (xs = ys))) H
section
variable {X : Cx}
theorem op_eqL (hu : X.A.units + 64 < cLine) : OpR X (compareOp .Eq) (rEqL X.K) := by
  intro pins s σ H x y v u Q I rx ry h
  obtain ⟨a, b, xs, ys, rfl, rfl, h1, h2, q⟩ := h
  refine op_eqD hu pins s σ H _ _ v u Q I rx ry ⟨_, _, dp_ints h1, dp_ints h2, shaped_ints _, shaped_ints _, ?_⟩
  rw [PyData.eqv, eqv_ints]
  exact q
theorem op_neL (hu : X.A.units + 64 < cLine) : OpR X (compareOp .NotEq) (rNeL X.K) := by
  intro pins s σ H x y v u Q I rx ry h
  obtain ⟨a, b, xs, ys, rfl, rfl, h1, h2, q⟩ := h
  refine op_neD hu pins s σ H _ _ v u Q I rx ry ⟨_, _, dp_ints h1, dp_ints h2, shaped_ints _, shaped_ints _, ?_⟩
  rw [PyData.eqv, eqv_ints]
  exact q
end
theorem same_new {H H' : Hp} {p : Addr} {o : HO} (s : Same H H') (h : H p = none) : Same H (upd H' p o) := fun b x e => by
  rw [upd_ne (ne_of_none e h)]
  exact s b x e
theorem same_upd {H : Hp} {p : Addr} {o : HO} (h : H p = none) : Same H (upd H p o) := same_new (Same.refl H) h
end TA
set_option Elab.async false
set_option linter.all false
set_option maxRecDepth 100000
set_option maxHeartbeats 4000000
namespace TA
open PySem PySem.Spec PyProof.Rows L2
/-- the greatest heap that is asked: below 2 ^ B -/
abbrev Bd : Int := 2 ^ 300
theorem num_of {f : Int} {n : Nat} {h : Int} (h1 : 1 ≤ f) (h30 : f ≤ 30) (hz : st f n ≤ h) (hb : h < Bd) : n < 9000 :=
  st_small h1 h30 (B := 300) (Int.lt_of_le_of_lt hz hb)
section
variable {P : Program} {w : World} {K : PySem.W.Frag} {mg : Str → Option Value} {base : Heap}
/-! ### row_past -/
def spRowPast : Sp := fun vs H Q _ => ∃ (f h : Int), vs = [.int f, .int h] ∧ 1 ≤ f ∧ f ≤ 30 ∧ h < Bd ∧
  ∀ (n : Nat) (r : Addr) (H' : Hp), h < st f n → n ≤ 9000 → Same H H' → H r = none → H' r = some (.lst (rowV f n)) → Q (.ref r) H'
theorem scRowPast : FnScope ["factor", "heap", "row", "place"] ["factor", "heap"] (defScope sRowPast) := ⟨rfl, rfl, rfl, by decide +kernel, rfl, by decide +kernel, by decide +kernel⟩
theorem ok_row_past {f fA : Addr} {fd fdA : FuncData} (F : Fun K "row_past" "row_past" sRowPast f fd) (FA : Fun K "add_step" "add_step" sAddStep fA fdA) (bA : Binds K fdA ["factor", "row", "place"] []) (gA : mg "add_step" = some (.ref fA)) :
    FnOk P w K mg base CX0 2 f fd ["factor", "heap"] spRowPast := by
  have GA : FnOk P w K mg base CX0 1 fA fdA ["factor", "row", "place"] spAddStep := ok_add_step FA
  refine F.ok scRowPast (fun vs H Q E h => ?_) (fun cdv A outer s H vs Q E hr h => ?_)
  · obtain ⟨f, h, rfl, _⟩ := h
    rfl
  · obtain ⟨f, h, rfl, h1, h30, hB, q⟩ := h
    refine ⟨_, pss_cons (ps_set (i := 2) scRowPast.nd rfl (Or.inl rfl) (pe_lst (pa_cons pe_int pa_nil))) (pss_cons (ps_set (i := 3) scRowPast.nd rfl (Or.inl rfl) pe_int)
      (pss_cons (ps_while PassesOwn.never (pt_cmpR op_le (pe_ix ix_list (pv 2) (pe_un un_neg pe_int) (fun _ _ => rfl)) (pv 1) (nomark _))
        (pss_one (ps_set (i := 3) scRowPast.nd rfl (Or.inl rfl) (pe_call GA hr (by rfl) gA FA.kp bA .nil pass0 (pa_cons (pv 0) (pa_cons (pv 2) (pa_cons (pv 3) pa_nil)))))))
      (pss_one (ps_ret (pv 2))))), ?_⟩
    refine ⟨(by show 1 ≤ sizeLine; decide), fun r nr => ?_⟩
    refine ⟨fun m σ H' => ∃ (n : Nat) (p : Int), σ = [some (.int f), some (.int h), some (.ref r), some (.int p)] ∧ Same H H' ∧ H' r = some (.lst (rowV f n)) ∧ Place f n p ∧ n ≤ 9000 ∧ m = (h + 1 - st f n).toNat, ⟨_, 0, 0, rfl, same_upd nr, upd_same, place_zero f, Nat.zero_le _, rfl⟩, ?_⟩
    rintro m σ H' ⟨n, p, rfl, sm, hR, hp, hn, rfl⟩
    refine ⟨.ref r, rfl, 1, rfl, r, _, _, _, rfl, rfl, SqL.of hR, rowV_last f n, .int h, rfl, _, _, rfl, rfl, _, rfl, ?_⟩
    refine ite2 (fun c => ?_) (fun c => ?_)
    · have hz : st f n ≤ h := of_decide_eq_true c
      have hn2 := num_of h1 h30 hz hB
      have hlt := st_lt h1 n
      refine ⟨fun σ' H'' => ∃ p', σ' = [some (.int f), some (.int h), some (.ref r), some (.int p')] ∧ H'' = upd H' r (.lst (rowV f (n + 1))) ∧ Place f (n + 1) p', ?_, ?_⟩
      · rintro σ' H'' ⟨p', rfl, rfl, hp'⟩
        exact ⟨(h + 1 - st f (n + 1)).toNat, by omega, n + 1, p', rfl, same_new sm nr, upd_same, hp', by omega, rfl⟩
      · exact ⟨_, rfl, _, rfl, _, rfl, f, r, p, n, rfl, h1, h30, hR, hp, by omega, fun p' hp' => ⟨p', rfl, rfl, hp'⟩⟩
    · have hz : ¬ st f n ≤ h := of_decide_eq_false (Bool.eq_false_iff.mpr c)
      exact ⟨_, rfl, q n r H' (by omega) hn sm nr hR⟩
/-! ### sum_of -/
def spSumOf : Sp := fun vs H Q _ => ∃ (f h : Int), vs = [.int f, .int h] ∧ 1 ≤ f ∧ f ≤ 30 ∧ 0 ≤ h ∧ h < Bd ∧
  ∀ (r : Addr) (H' : Hp), (parts f h).length ≤ 9001 → Same H H' → H r = none → H' r = some (.lst ((parts f h).map V.int)) → Q (.ref r) H'
theorem scSumOf : FnScope ["factor", "heap", "parts", "left", "step"] ["factor", "heap"] (defScope sSumOf) := ⟨rfl, rfl, rfl, by decide +kernel, rfl, by decide +kernel, by decide +kernel⟩
theorem rev_item {f : Int} {n i : Nat} {x : V} (h : (rowV f n)[(rowV f n).length - 1 - i]? = some x) (hi : i < (rowV f n).length) : ∃ s, x = .int s ∧ (rowR f n).drop i = s :: (rowR f n).drop (i + 1) := by
  have hi' : i < (rowR f n).length := by rw [rowV_length] at hi; rw [rowR_len]; exact hi
  refine ⟨(rowR f n)[i], ?_, List.drop_eq_getElem_cons hi'⟩
  rw [rowV_length] at h
  unfold rowV row at h
  rw [List.getElem?_map, List.getElem?_reverse (by rw [rowR_len]; omega), rowR_len] at h
  have e : n + 1 - 1 - (n + 1 - 1 - i) = i := by rw [rowR_len] at hi'; omega
  rw [e, List.getElem?_eq_getElem hi'] at h
  exact (Option.some.inj h).symm
theorem ok_sum_of {f fR fC fN : Addr} {fd fdR fdC fdN : FuncData} (F : Fun K "sum_of" "sum_of" sSumOf f fd)
    (GR : FnOk P w K mg base CX0 2 fR fdR ["factor", "heap"] spRowPast) (kR : PySem.W.keepIn K (.ref fR) = true) (bR : Binds K fdR ["factor", "heap"] []) (gR : mg "row_past" = some (.ref fR))
    (GC : FnOk P w K mg base CX0 2 fC fdC ["factor"] spCkFactor) (kC : PySem.W.keepIn K (.ref fC) = true) (bC : Binds K fdC ["factor"] []) (gC : mg "check_factor" = some (.ref fC))
    (GN : FnOk P w K mg base CX0 2 fN fdN ["heap"] spCkHeap) (kN : PySem.W.keepIn K (.ref fN) = true) (bN : Binds K fdN ["heap"] []) (gN : mg "check_heap" = some (.ref fN)) (mr : mg "reversed" = none) :
    FnOk P w K mg base CX0 3 f fd ["factor", "heap"] spSumOf := by
  refine F.ok scSumOf (fun vs H Q E h => ?_) (fun cdv A outer s H vs Q E hr h => ?_)
  · obtain ⟨f, h, rfl, _⟩ := h
    rfl
  · obtain ⟨f, h, rfl, h1, h30, h0, hB, q⟩ := h
    refine ⟨_, pss_cons (ps_expr (pe_call GC hr (by rfl) gC kC bC .nil pass0 (pa_cons (pv 0) pa_nil))) (pss_cons (ps_expr (pe_call GN hr (by rfl) gN kN bN .nil pass0 (pa_cons (pv 1) pa_nil)))
      (pss_cons (ps_set (i := 2) scSumOf.nd rfl (Or.inl rfl) (pe_lst pa_nil)) (pss_cons (ps_set (i := 3) scSumOf.nd rfl (Or.inl rfl) (pv 1))
      (pss_cons (ps_for PassesOwn.never rfl (pi_reversed (by rfl) mr (pa_cons (pe_call GR hr (by rfl) gR kR bR .nil pass0 (pa_cons (pv 0) (pa_cons (pv 1) pa_nil))) pa_nil)) (pg_name (i := 4) scSumOf.nd rfl (Or.inl rfl))
        (pss_one (ps_if (pt_cmpR op_le (pv 4) (pv 3) (nomark _))
          (pss_cons (ps_expr (pe_bm PySem.F.plainAttrs_list PySem.F.slot_list_append PySem.F.type_list_append mt_append (pv 2) (pa_cons (pv 4) pa_nil)))
            (pss_one (ps_aug (i := 3) scSumOf.nd rfl (.inl rfl) (pv 4) ip_sub))) pss_nil)))
      (pss_one (ps_ret (pv 2))))))), ?_⟩
    refine ⟨_, rfl, f, rfl, h1, h30, ?_⟩
    refine ⟨_, rfl, h, rfl, h0, ?_⟩
    refine ⟨Nat.zero_le _, fun p np => ?_⟩
    refine ⟨_, rfl, ?_⟩
    refine ⟨_, rfl, _, rfl, f, h, rfl, h1, h30, hB, fun n r H1 hz hn sm1 nr1 hR => ?_⟩
    have nr : H r = none := (same_upd (o := .lst []) np).free nr1
    have hpr : r ≠ p := fun e => by rw [e, upd_same] at nr1; cases nr1
    have hp1 : H1 p = some (.lst []) := sm1 _ _ upd_same
    have sm0 : Same H H1 := (same_upd np).trans sm1
    refine ⟨r, _, rfl, SqL.of hR, RT.for_Itv (K := K) (a := r) (xs := rowV f n) (fun i σ H' => ∃ (acc : List Int) (l : Int) (v : Option V), σ = [some (.int f), some (.int h), some (.ref p), some (.int l), v] ∧ Same H H' ∧ H' r = some (.lst (rowV f n)) ∧
      H' p = some (.lst (acc.map V.int)) ∧ acc ++ gr ((rowR f n).drop i) l = gr (rowR f n) h ∧ acc.length ≤ i) ?_ ?_ ?_ ?_⟩
    · exact ⟨[], h, none, rfl, sm0, hR, hp1, rfl, Nat.le_refl _⟩
    · rintro i σ H' ⟨_, _, _, _, _, hR', _⟩
      exact SqL.of hR'
    · rintro i x σ H' hi hx ⟨acc, l, v, rfl, sm, hR', hp', eg, hl⟩
      obtain ⟨z, rfl, ed⟩ := rev_item hx hi
      rw [rowV_length] at hi
      refine ⟨.int z, rfl, .int l, rfl, z, l, rfl, rfl, _, rfl, ?_⟩
      rw [ed] at eg
      refine ite2 (fun c => ?_) (fun c => ?_)
      · have c' : z ≤ l := of_decide_eq_true c
        refine ⟨.ref p, rfl, .inl ⟨rfl, _, SqL.of hp'⟩, .int z, rfl, p, _, _, rfl, rfl, hp', ?_, ?_⟩
        · rw [List.length_map]
          exact small_line (by omega)
        · refine ⟨_, rfl, .int z, rfl, l, z, rfl, rfl, acc ++ [z], l - z, _, rfl, same_new sm np, ?_, ?_, ?_, ?_⟩
          · rw [upd_ne hpr]; exact hR'
          · rw [upd_same, List.map_append]; rfl
          · rw [gr_pos c'] at eg
            rw [← eg, List.append_assoc]; rfl
          · rw [List.length_append, List.length_singleton]; omega
      · have c' : ¬ z ≤ l := of_decide_eq_false (Bool.eq_false_iff.mpr c)
        refine ⟨acc, l, _, rfl, sm, hR', hp', ?_, by omega⟩
        rw [gr_neg c'] at eg
        exact eg
    · rintro σ H' ⟨acc, l, v, rfl, sm, hR', hp', eg, hl⟩
      have e : (rowR f n).drop (rowV f n).length = [] := List.drop_eq_nil_of_le (by rw [rowV_length, rowR_len]; exact Nat.le_refl _)
      rw [e] at eg
      have e2 : acc = parts f h := by
        rw [← parts_of h1 h0 hz, ← eg, gr_nil, List.append_nil]
      subst e2
      rw [rowV_length] at hl
      exact ⟨.ref p, rfl, q p H' (by omega) sm np hp'⟩
end
end TA
set_option Elab.async false
set_option linter.all false
set_option maxRecDepth 100000
set_option maxHeartbeats 4000000
namespace TA
open PySem PySem.Spec PyProof.Rows L2
/-! ### is_whole called from anywhere, at the library's level -/
theorem isw_body {P : Program} {w : World} {K : PySem.W.Frag} {mg : Str → Option Value} {base : Heap} (M : L2.Mod K mg base) (mt : mg "type" = none) (mi : mg "int" = none)
    {env : Env} (hs : env.scope = defScope sIsWhole) (hg : env.globals = mainGlobals) (hbl : env.builtins = builtinsNs)
    {A : Around} {s : Shared} {u : Value} {m : Int} {t : Tok} {T : String} {b : Bool} {mm : Str → Option Value} {Q : Flow → Shared → Prop} {E : Value → Shared → Prop}
    (bs : ∀ b o, base.get? b = some o → s.heap.get? b = some o)
    (ty : s.TypeIs u T) (nb : (Value.type T == Value.type "builtin_function_or_method") = false) (hb : (∃ n t', u = .int n t' ∧ T = "int" ∧ b = decide (m ≤ n)) ∨ (T ≠ "int" ∧ b = false))
    (ns : s.heap.Ns env.locals mm) (m1 : mm "value" = some u) (m2 : mm "least" = some (.int m t))
    (h : ∀ k, Q (.ret (.bool b)) { s with toks := k }) : wpAny (model P w) A (execs (defBody sIsWhole) env) Q E s := by
  have hk : env.scope.kind = .function := by rw [hs]; rfl
  have lv : ∀ {p : Pos} {Q' : Value → Shared → Prop} {E' : Value → Shared → Prop} {s' : Shared}, s'.heap.Ns env.locals mm → Q' u s' → wpAny (model P w) A (eval (.Name "value" p) env) Q' E' s' := fun hn q =>
    wpAny_Name (wpAny_loadName_local hk (by show env.scope.names.lookup _ = _; rw [hs]; rfl) hn m1 q) (by decide)
  have ll : ∀ {p : Pos} {Q' : Value → Shared → Prop} {E' : Value → Shared → Prop} {s' : Shared}, s'.heap.Ns env.locals mm → Q' (.int m t) s' → wpAny (model P w) A (eval (.Name "least" p) env) Q' E' s' := fun hn q =>
    wpAny_Name (wpAny_loadName_local hk (by show env.scope.names.lookup _ = _; rw [hs]; rfl) hn m2 q) (by decide)
  have lb : ∀ {x : Str} {p : Pos} {v : Value} {Q' : Value → Shared → Prop} {E' : Value → Shared → Prop} {s' : Shared}, (∀ b o, base.get? b = some o → s'.heap.get? b = some o) → (defScope sIsWhole).names.lookup x = some .globalImplicit → mg x = none → bootBuiltins x = some v → x ≠ "__name__" → (x == ("__debug__" : Str)) = false →
      Q' v s' → wpAny (model P w) A (eval (.Name x p) env) Q' E' s' := fun hbs hx hm hv hn hd q => by
    obtain ⟨mb, h1, h2⟩ := M.blt
    exact Calls.Name_function_global hk (by show env.scope.names.lookup _ = _; rw [hs]; exact hx) (Calls.loadGlobal_builtin (by rw [hg]; exact M.glob.keeps hbs) hm (by rw [hbl]; exact h1.keeps hbs) ((h2 _ hn).trans hv) q) hd
  refine wpAny_execs_cons (wpAny_Return_some (BoolOp_and ?_))
  refine wpAny_Compare1 (wpAny_Call_Name_kw (lb (v := .type "type") bs (by rfl) mt (by decide +kernel) (by decide) (by decide) ?_)) (nomark _)
  refine PyProof.Rows.callWith_type1 ?_ (by rfl) (by rfl)
  refine Calls.spliced_cons (lv ns ?_)
  refine Calls.spliced_nil (call_type_of ty nb ?_)
  refine lb (v := .type "int") bs (by rfl) mi (by decide +kernel) (by decide) (by decide) ?_
  refine wpAny_is_plain rfl ?_
  refine wpAny_truthy_bool ?_
  have etb : (Value.type T == Value.type "int") = decide (T = "int") := ty_beq _ _
  rcases hb with ⟨n, t', rfl, rfl, rfl⟩ | ⟨ne, rfl⟩
  · rw [etb, decide_eq_true rfl]
    refine BoolOp_one (wpAny_Compare1 (lv ns (ll ns ?_)) (nomark _))
    refine ge_int ?_
    exact h _
  · rw [etb, decide_eq_false ne]
    exact h _
theorem isw_call {P : Program} {w : World} {K : PySem.W.Frag} {mg : Str → Option Value} {base : Heap} {f : Addr} {fd : FuncData} (F : Fun K "is_whole" "is_whole" sIsWhole f fd) (M : L2.Mod K mg base) (mt : mg "type" = none) (mi : mg "int" = none)
    {A : Around} {s : Shared} {u : Value} {m : Int} {t : Tok} {T : String} {b : Bool} {Q : Value → Shared → Prop} {E : Value → Shared → Prop}
    (hdp : A.depth + 8 < recursionLimit)
    (bs : ∀ b o, base.get? b = some o → s.heap.get? b = some o)
    (nb : (Value.type T == Value.type "builtin_function_or_method") = false) (hb : (∃ n t', u = .int n t' ∧ T = "int" ∧ b = decide (m ≤ n)) ∨ (T ≠ "int" ∧ b = false))
    (hup : ∀ s' : Shared, (∀ b o, s.heap.get? b = some o → s'.heap.get? b = some o) → s'.TypeIs u T)
    (h : ∀ h' k, (∀ b o, s.heap.get? b = some o → h'.get? b = some o) → Q (.bool b) { s with heap := h', toks := k }) :
    wpAny (model P w) A (call (.ref f) [u, .int m t]) Q E s := by
  have FB := F.binds (ps := ["value", "least"]) fun _ _ _ _ _ _ us hl => match us, hl with | [_, _], _ => rfl
  obtain ⟨oc, od, kV, doc, pm, an, cdv, ct, osl, rfl, lk, hcd⟩ := F.ex
  have KX : K.In s.heap := M.kin.keeps bs
  have lim : s.heap.NoLimit := M.nolimit.keeps bs
  have S := scIsWhole
  have hkind : ∀ y ∈ (["value", "least"] : List Str).zip [u, Value.int m t], (defScope sIsWhole).names.lookup y.1 = some .local ∨ ((defScope sIsWhole).names.lookup y.1 = some .cell ∧ ((cellsFrom (s.heap.objs.size + 1) (defScope sIsWhole).names []).lookup y.1).isSome = true) := fun ⟨n, v⟩ hy => by
    rcases S.par n (List.of_mem_zip hy).1 with q | q
    · exact .inl q
    · exact .inr ⟨q, PySem.W.cellsFrom_some _ _ _ (.inl q)⟩
  refine wpAny_call (codeAny_call_function (by omega) (KX _ _ lk) rfl S.co S.gen rfl (PySem.W.codeRec_of KX hcd) (FB s [u, .int m t] KX rfl _ _ _ _ ?_))
  refine wpAny_newFunctionEnv_cells S.kind hkind fun env he s1 x => ?_
  have e1 : env.scope = defScope sIsWhole := by rw [he]; rfl
  have e2 : env.globals = mainGlobals := by rw [he]; rfl
  have e3 : env.builtins = builtinsNs := by rw [he]; rfl
  have e4 : env.kindOf "value" = some .local := by rw [he]; rfl
  have e5 : env.kindOf "least" = some .local := by rw [he]; rfl
  clear he
  refine ⟨lim.keeps x.toInCall.keep, codeAny_func ?_⟩
  obtain ⟨h1, tk, rfl, hk⟩ := x.done
  have ns := x.toInCall.ns
  refine isw_body M mt mi e1 e2 e3 (fun b o e => hk b o (bs b o e)) (hup _ hk) nb hb ns (bindL_get (P := ["value", "least"]) (i := 0) (by decide) rfl rfl e4) (bindL_get (P := ["value", "least"]) (i := 1) (by decide) rfl rfl e5) fun k => ?_
  exact h h1 k hk
end TA
set_option Elab.async false
set_option linter.all false
set_option maxRecDepth 100000
set_option maxHeartbeats 4000000
namespace TA
open PySem PySem.Spec PyProof.Rows L2
/-! ### all(is_whole(number, least) for number in e) -/
/-- v is whole from m on, or not: b -/
def WholeIs (K : PySem.W.Frag) (H : Hp) (m : Int) (v : V) (b : Bool) : Prop := ∃ T, TyB K H v T ∧ ((∃ n, v = .int n ∧ b = decide (m ≤ n)) ∨ (T ≠ "int" ∧ b = false))
abbrev gsc : Scope := { kind := .function, names := [((".0" : Str), NameKind.local), (("number" : Str), NameKind.local), (("least" : Str), NameKind.free), (("is_whole" : Str), NameKind.globalImplicit)], isGenerator := true, isCoroutine := false, more := [] }
abbrev isE (p1 p2 p3 p4 : Pos) : Expr := .Call (.Name "is_whole" p1) [.Name "number" p2, .Name "least" p3] [] p4
theorem typeIs_keep {s s' : Shared} {u : Value} {T : String} {P : Addr} {ps : Array Value} (h : s.TypeIs u T) (hP : s.heap.get? P = some { cls := .none, data := .fields ps })
    (k : ∀ b o, b ≠ P → s.heap.get? b = some o → s'.heap.get? b = some o) : s'.TypeIs u T := by
  cases u with
  | ref a =>
    obtain ⟨o, h1, h2⟩ := (show ∃ o, s.heap.get? a = some o ∧ o.cls = .type T from h)
    refine ⟨o, k a o (fun z => ?_) h1, h2⟩
    rw [z, hP] at h1
    cases h1
    cases h2
  | _ => exact h
section
variable {X : Cx} {pins : List (Addr × Obj)} {σ : L2.St} {H : Hp} {s : Shared}
def ReadyW (X : Cx) (pins : List (Addr × Obj)) (σ : L2.St) (H1 : Hp) (P : Addr) (bs : List Bool) (g : Addr) (s5 : Shared) : Prop :=
  ∃ (fp wr : List Addr) (G : Array GenState → Array GenState → Prop) (F : Nat → Value → Prop) (St : Nat → Shared → Prop),
    WalksS X.prog X.w X.A.in1 g fp wr G bs.length F St ∧ St 0 s5 ∧
    TruthOf X.prog X.w X.A.in1 F (fun j => bs.getD j false) ∧
    ∀ s', Moved wr G s5 s' → ∃ H2, GxR.Tabbed P H1 H2 ∧ Inv X pins σ H2 s'

theorem gen_lstW {c P f : Addr} {fd : FuncData} {iter : Expr} {px p1 p2 p3 p4 gpos : Pos} {te : TE} {k : Nat} {m : Int} {Q' : Value → Shared → Prop} {R : List Bool → Hp → Prop}
    (hr : Room (k + 2) X.A) (TB : GxR.TabB X.base X.mg c P) (hcode : X.env.code = .ref c) (hi : PE X iter te)
    (F : Fun X.K "is_whole" "is_whole" sIsWhole f fd) (gF : X.mg "is_whole" = some (.ref f)) (mt : X.mg "type" = none) (mi : X.mg "int" = none)
    (hN : X.N[1]? = some ("least" : Str)) (hc : X.env.kindOf "least" = some .cell) (hσ : σ[1]? = some (some (.int m)))
    (hs : ∀ v, genFold iter X.env v = pure v) (I : Inv X pins σ H s)
    (h : te σ H fun v H1 => ∃ (yl : Addr) (vs : List V) (bs : List Bool), v = .ref yl ∧ SqL X.K H1 yl vs ∧ bs.length = vs.length ∧ (∀ (i : Nat) (v : V) (b : Bool), vs[i]? = some v → bs[i]? = some b → WholeIs X.K H1 m v b) ∧ GxR.TabG H1 P ∧ R bs H1)
    (hQ : ∀ bs H1 g s5, R bs H1 → ReadyW X pins σ H1 P bs g s5 → Q' (.ref g) s5) :
    wpAny (model X.prog X.w) X.A (eval (.GeneratorExp (isE p1 p2 p3 p4) [⟨.Name "number" px, iter, [], 0⟩] gsc gpos) X.env) Q' X.xe s := by
  obtain ⟨cl0, hcl0⟩ := I.ok.has "least" (.inl hc)
  have S : GxR.GenS X.env gsc "number" := ⟨rfl, rfl, by decide, by decide, by decide, fun y hy e => by
    simp only [List.mem_cons, List.mem_nil_iff, or_false] at hy
    rcases hy with rfl | rfl | rfl | rfl
    · cases e
    · cases e
    · exact ⟨cl0, hcl0⟩
    · cases e⟩
  have ecl : cloFrom X.env.cells gsc.names [] = [(("least" : Str), cl0)] := by
    show [(("least" : Str), (X.env.cells.lookup ("least" : Str)).getD 0)] = _
    rw [hcl0]
    rfl
  refine wpAny_GeneratorExp_walksQD hr.hd S.co (closure_ok S.free) S.cell S.dot S.loc S.kind (by have := hr.dp; omega) ?_ hs
  refine thn (hi.run pins s σ H _ I h) fun xv s1 ⟨v, H1, I1, r1, q1⟩ => ?_
  obtain ⟨yl, vs, bs, rfl, hyl, hbl, hbs, ⟨ps, hP, ht⟩, q1⟩ := q1
  obtain rfl : xv = Value.ref yl := r1
  obtain ⟨its, rv, hl, hz⟩ := I1.list hyl
  have hIL := hl.isList
  have hlen : its.length = vs.length := by rw [← rv.length]
  have hat : ∀ (i : Nat) (v : Value), its.toArray[i]? = some v → ∃ (a : V), vs[i]? = some a ∧ RelV a v := fun i v hv => by
    have hv2 : its[i]? = some v := by simpa using hv
    have hi2 : i < its.length := (List.getElem?_eq_some_iff.mp hv2).1
    obtain ⟨a, ha⟩ : ∃ a, vs[i]? = some a := ⟨vs[i]'(by omega), List.getElem?_eq_getElem _⟩
    obtain ⟨u, hu, ru⟩ := rv.get ha
    rw [hv2] at hu
    cases hu
    exact ⟨a, ha, ru⟩
  -- least's cell
  obtain ⟨tk0, hcell⟩ : ∃ t, s1.heap.IsCell cl0 (some (.int m t)) := by
    obtain ⟨m0, _, hloc⟩ := I1.loc
    obtain ⟨u, ru, hk⟩ := hloc 1 "least" (.int m) hN hσ (.inr (.inl hc))
    obtain ⟨t, rfl⟩ := (show ∃ t, u = Value.int m t from ru)
    rcases hk with ⟨hk, _⟩ | ⟨_, c', hc', hi'⟩
    · rw [hc] at hk
      cases hk
    · rw [hcl0] at hc'
      cases hc'
      exact ⟨t, hi'⟩
  have hclP : cl0 ≠ P := fun z => by
    have := I1.freeC _ _ hcl0
    rw [z, hP] at this
    cases this
  refine wpAny_pyIter_list hIL ?_
  generalize ho : ({ cls := .type "list_iterator", data := .fields #[.ref yl, .int 0 0] } : Obj) = o
  have hitr : (s1.heap.push o).IsListIter s1.heap.objs.size yl 0 := by
    subst ho
    exact ⟨_, Heap.get?_push_size _ rfl, rfl, rfl⟩
  have hylt : yl < s1.heap.objs.size := by
    obtain ⟨_, e, _⟩ := _root_.id hIL
    exact Heap.lt_size e
  have hPs : s1.heap.get? P = some { cls := .none, data := .fields ps } := I1.hok P _ hP
  have hPlt : P < s1.heap.objs.size := Heap.lt_size hPs
  have hP2 : (s1.heap.push o).get? P = some { cls := .none, data := .fields ps } := Heap.get?_push_of_some _ hPs
  have cd : PySem.W.CodeHd (s1.heap.push o) c P := TB.code.keeps fun b u e => Heap.get?_push_of_some _ (I1.bk b u e)
  have lim2 : (s1.heap.push o).NoLimit := I1.nolimit.push o
  have cont : ∀ (code : Value) (h3 : Heap) (tk : Nat) (ps' : Array Value), Heap.ExtBut P (s1.heap.push o) h3 → (s1.heap.push o).objs.size ≤ h3.objs.size → h3.get? P = some { cls := .none, data := .fields ps' } → (∃ more, ps' = ps ++ more) → TriplesOk ps'.toList →
      wpAny (model X.prog X.w) X.A (builtinsFor X.env.globals X.env.builtins) (fun bi s₄ =>
        ∃ Ia fp wr n₀ Pf St₀ pz F, Value.ref s1.heap.objs.size = .ref Ia ∧ (∀ A' : Around, A'.handled = none → Walks X.prog X.w A' Ia fp wr n₀ Pf St₀) ∧ St₀ 0 s₄.heap ∧ (∀ b ∈ fp, b < s₄.heap.objs.size) ∧ s₄.heap.NoLimit ∧ cStatics ∉ wr ∧
          (∀ href : Heap, (∀ b o, s₄.heap.get? b = some o → href.get? b = some o) →
            QuietGenD X.prog X.w (genEnv gsc (cloFrom X.env.cells gsc.names []) s₄.heap.objs.size code bi X.env) "number" [] (isE p1 p2 p3 p4) (List.range s₄.heap.objs.size) wr Pf pz F href (X.A.depth + 1) (X.A.units + 8)) ∧
          (∀ a h₅ tk gs, gs.bare = true → s₄.heap.objs.size < a → h₅.objs.size = a + 1 → (∀ b o, s₄.heap.get? b = some o → h₅.get? b = some o) →
            WalksS X.prog X.w X.A.in4 a (a :: s₄.heap.objs.size :: List.range s₄.heap.objs.size) (s₄.heap.objs.size :: wr) (GenOnlyQ s₄.gens.size) (passing pz n₀ 0).length
              (fun j y => ∃ i, (passing pz n₀ 0)[j]? = some i ∧ F i y) (GenAt X.prog X.w X.A.in4 a s₄.gens.size s₄.heap.objs.size (List.range s₄.heap.objs.size) wr pz n₀ F) →
            GenAt X.prog X.w X.A.in4 a s₄.gens.size s₄.heap.objs.size (List.range s₄.heap.objs.size) wr pz n₀ F 0 { s₄ with gens := s₄.gens.push gs, toks := tk, heap := h₅ } →
            Q' (.ref a) { s₄ with gens := s₄.gens.push gs, toks := tk, heap := h₅ })) X.xe { s1 with heap := h3, toks := tk } := by
    intro code h3 tk ps' hx hsz hP3 hmore ht3
    obtain ⟨bm, ob, e1, e2, e3, e4, e5, e6, e7, e8⟩ := TB.bm
    have hcP : cStatics ≠ P := fun e => by
      obtain ⟨_, hns, _⟩ := I1.nolimit
      obtain ⟨o', es, ep, ho, hd, _⟩ := hns
      rw [e, hPs] at ho
      cases ho
      cases hd
    have hcl : cStatics < s1.heap.objs.size := let ⟨_, hns, _⟩ := I1.nolimit; hns.lt
    have sz2 : (s1.heap.push o).objs.size = s1.heap.objs.size + 1 := Heap.size_push ..
    have keep3 : ∀ b u, b ≠ P → s1.heap.get? b = some u → h3.get? b = some u := fun b u hb e => hx b u hb (Heap.get?_push_of_some _ e)
    refine wpAny_builtinsFor (m := X.mg) (by rw [I1.ok.glob]; exact ((I1.mod.glob.keeps I1.bk).push o).extBut hx TB.gP) e1 e2 (keep3 _ _ e4 (I1.bk _ _ e5)) e6 e7 e8 ?_
    have hylP : yl ≠ P := fun z => by
      obtain ⟨_, e, hc1, _, hd1⟩ := _root_.id hIL
      rw [z, hPs] at e
      cases e
      cases hd1
    have hIL3 : h3.IsList yl its.toArray := by
      obtain ⟨ob, e, r⟩ := _root_.id hIL
      exact ⟨ob, keep3 _ _ hylP e, r⟩
    have hItr3 : h3.IsListIter s1.heap.objs.size yl 0 := hitr.at fun u e => hx _ u (Nat.ne_of_gt hPlt) e
    refine ⟨s1.heap.objs.size, [s1.heap.objs.size, yl], [s1.heap.objs.size], its.toArray.size, (fun i v => its.toArray[i]? = some v), (fun i h => h.IsListIter s1.heap.objs.size yl i ∧ h.IsList yl its.toArray), (fun _ => true),
      (fun i y => y = .bool (bs.getD i false)), rfl, (fun A' hA => Walks.list hA _ _ (Nat.ne_of_lt hylt) _), ⟨hItr3, hIL3⟩, ?_, lim2.extBut hx hcP, ?_, ?_, ?_⟩
    · intro b hb
      rcases List.mem_cons.mp hb with z | z
      · rw [z]
        show s1.heap.objs.size < h3.objs.size
        omega
      · rcases List.mem_cons.mp z with z | z
        · rw [z]
          have e9 : s1.heap.objs.size ≤ h3.objs.size := by omega
          exact Nat.lt_of_lt_of_le hylt e9
        · cases z
    · intro z
      rcases List.mem_cons.mp z with z | z
      · exact Nat.ne_of_lt hcl z
      · cases z
    · intro href hhref
      refine ⟨fun A' E' i v s₂ m₂ hA hD hU hPv hn hm hk => ?_, fun A' E' i v s₂ m₂ hA hD hU hPv hp hn hm hk => ?_⟩
      · simp only [List.forIn_nil]
        exact wpAny_pure ⟨rfl, GxR.keeps_refl _⟩
      · obtain ⟨a, ha, ra⟩ := hat i v hPv
        have hilt : i < bs.length := by rw [hbl]; exact (List.getElem?_eq_some_iff.mp ha).1
        have hbi : bs[i]? = some (bs.getD i false) := by
          rw [List.getD_eq_getElem?_getD, List.getElem?_eq_getElem hilt]
          rfl
        obtain ⟨T, hT, hw⟩ := hbs i a _ ha hbi
        -- what stood at s1 stands at s₂
        have old : ∀ b u, b ≠ P → s1.heap.get? b = some u → s₂.heap.get? b = some u := fun b u hb e => by
          have h9 := keep3 b u hb e
          have hb1 : b < s1.heap.objs.size := Heap.lt_size e
          refine hk b (List.mem_range.mpr (Heap.lt_size h9)) (fun z => ?_) u (hhref b u h9)
          rcases List.mem_cons.mp z with z | z
          · rw [z] at hb1
            exact Nat.lt_irrefl _ hb1
          · cases z
        have bsB : ∀ b u, X.base.get? b = some u → s₂.heap.get? b = some u := fun b u e => by
          obtain ⟨h1, h2⟩ := I1.bs b u e
          exact old b u (fun z => by rw [z, hP] at h2; cases h2) h1
        have tyS : s1.TypeIs v T := hT.is I1 ra
        have hcell2 : s₂.heap.IsCell cl0 (some (.int m tk0)) := by
          obtain ⟨oc, h1, h2⟩ := hcell
          exact ⟨oc, old _ _ hclP h1, h2⟩
        have hkE : ∀ {cl : List (Str × Addr)} {C : Addr} {code : Value} {bi : Addr}, (genEnv gsc cl C code bi X.env).scope.kind = .function := rfl
        refine wpAny_Call_Name_kw (Calls.Name_function_global rfl (by rfl) (Calls.loadGlobal_global (mg := X.mg) (by
          show s₂.heap.Ns X.env.globals X.mg
          rw [I1.ok.glob]
          exact I1.mod.glob.keeps bsB) gF ?_) (by decide))
        refine PySem.W.callWith_K (h₀ := X.base) I1.ok.mod.kin F.kp ?_ (by rfl) (by rfl)
        refine Calls.spliced_cons (wpAny_Name (wpAny_loadName_local rfl (by rfl) hn hm ?_) (by decide))
        refine Calls.spliced_cons (wpAny_Name (wpAny_loadName_free (c := cl0) rfl (by rfl) (by
          show (cloFrom X.env.cells gsc.names []).lookup ("least" : Str) = _
          rw [ecl]
          rfl) hcell2 ?_ (by decide)) (by decide))
        refine Calls.spliced_nil ⟨I1.ok.mod.kin.keeps bsB, ?_⟩
        refine isw_call F I1.ok.mod mt mi (by have := hr.dp; omega) bsB hT.nb ?_ (fun s' k9 => typeIs_keep tyS hPs fun b u hb e => k9 b u (old b u hb e)) fun h' k9 kk => ⟨rfl, h', k9, rfl, kk⟩
        rcases hw with ⟨n, rfl, eb⟩ | ⟨ne, eb⟩
        · obtain ⟨t', rfl⟩ := (show ∃ t', v = Value.int n t' from ra)
          cases hT
          exact .inl ⟨n, t', rfl, rfl, eb⟩
        · exact .inr ⟨ne, eb⟩
    · intro g h5 tk5 gs hgb hag hsz5 hk5 W5 hgat
      simp only [GxR.passing_true, List.length_range] at W5
      have hn5 : its.toArray.size = bs.length := by rw [List.size_toArray, hlen, hbl]
      rw [hn5] at W5 hgat
      refine hQ bs H1 g _ q1 ⟨_, _, _, _, _, W5.in4_1, hgat, ?_, fun s' hm => ?_⟩
      · intro j y sj Qj Ej hy hQj
        obtain ⟨i, hij, rfl⟩ := hy
        obtain ⟨hj, ej⟩ := List.getElem?_eq_some_iff.mp hij
        rw [List.getElem_range] at ej
        subst ej
        exact wpAny_truthy_bool hQj
      · obtain ⟨more, em⟩ := hmore
        have nwr : ∀ b u, s1.heap.get? b = some u → b ∉ h3.objs.size :: [s1.heap.objs.size] := fun b u e hb => by
          have hl := Heap.lt_size e
          rcases List.mem_cons.mp hb with z | z
          · rw [z] at hl
            have h9 : (h3.objs.size : Nat) < s1.heap.objs.size := hl
            omega
          · rcases List.mem_cons.mp z with z | z
            · rw [z] at hl
              exact Nat.lt_irrefl _ hl
            · cases z
        have J := GxR.inv_tab (more := more) (h' := s'.heap) (g' := s'.gens) (d' := s'.drawn) (t' := s'.toks) I1 hP (fun b u hb e => hm.heap b u (nwr b u e) (hk5 b u (keep3 b u hb e)))
          (by rw [← em]; exact hm.heap P _ (nwr P _ hPs) (hk5 P _ hP3)) (AllBare.movedS (I1.bare.push hgb) hm)
        rw [GxR.sh_eta s1 s' hm.os] at J
        refine ⟨upd H1 P (.tbl (ps ++ more)), ⟨⟨ps ++ more, upd_same, by rw [← em]; exact ht3⟩, fun b hb => upd_ne hb⟩, J⟩
  refine ⟨lim2, ?_⟩
  cases hf : codeAmong gpos ps.toList with
  | none =>
    refine wpAny_genexprCodeX hcode (cd.code hP2 ht) (cd.tab hP2) hf fun c' h' tk hx hge hlt hco' _ htab' _ => ?_
    obtain ⟨o1, vs, f1, tf, fl, tg, inF, tx, tt, op, _, _, _, _, _, _, _, _, _, htr, _⟩ := hco'
    exact cont _ h' tk _ hx (Nat.le_trans hge (Nat.le_of_lt hlt)) htab'.2 ⟨_, rfl⟩ htr
  | some cv =>
    refine wpAny_genexprCode_hit hcode (cd.code hP2 ht) hf ?_
    exact cont cv (s1.heap.push o) s1.toks ps (Heap.ExtBut.refl _ _) (Nat.le_refl _) hP2 ⟨#[], by simp⟩ ht

/-- all(is_whole(number, least) for number in e); behind it the def's table may have grown -/
def tAllW (K : PySem.W.Frag) (P : Addr) (te : TE) : TE := fun σ H Q => ∃ m, σ[1]? = some (some (.int m)) ∧ te σ H fun v H1 => ∃ (yl : Addr) (vs : List V) (bs : List Bool), v = .ref yl ∧ SqL K H1 yl vs ∧ bs.length = vs.length ∧
  (∀ (i : Nat) (v : V) (b : Bool), vs[i]? = some v → bs[i]? = some b → WholeIs K H1 m v b) ∧ GxR.TabG H1 P ∧ ∀ H2, GxR.Tabbed P H1 H2 → Q (.bl (bs.all id)) H2
theorem all_range (bs : List Bool) : (List.range bs.length).all (fun j => bs.getD j false) = bs.all id := by
  rw [Bool.eq_iff_iff, List.all_eq_true, List.all_eq_true]
  constructor
  · intro h b hb
    obtain ⟨j, hj, e⟩ := List.getElem_of_mem hb
    have q := h j (List.mem_range.mpr hj)
    rw [List.getD_eq_getElem?_getD, List.getElem?_eq_getElem hj, e] at q
    exact q
  · intro h j hj
    have hj' := List.mem_range.mp hj
    show bs.getD j false = true
    rw [List.getD_eq_getElem?_getD, List.getElem?_eq_getElem hj']
    exact h _ (List.getElem_mem hj')
theorem pe_allW {c P f : Addr} {fd : FuncData} {iter : Expr} {px p1 p2 p3 p4 p pos gpos : Pos} {te : TE} {k : Nat}
    (hr : Room (k + 2) X.A) (hg : Gl X "all") (hm : X.mg "all" = none) (TB : GxR.TabB X.base X.mg c P) (hcode : X.env.code = .ref c) (hi : PE X iter te)
    (F : Fun X.K "is_whole" "is_whole" sIsWhole f fd) (gF : X.mg "is_whole" = some (.ref f)) (mt : X.mg "type" = none) (mi : X.mg "int" = none)
    (hN : X.N[1]? = some ("least" : Str)) (hc : X.env.kindOf "least" = some .cell)
    (hs : ∀ v, genFold iter X.env v = pure v) :
    PE X (.Call (.Name "all" p) [.GeneratorExp (isE p1 p2 p3 p4) [⟨.Name "number" px, iter, [], 0⟩] gsc gpos] [] pos) (tAllW X.K P te) := by
  have he : starEach [.GeneratorExp (isE p1 p2 p3 p4) [⟨.Name "number" px, iter, [], 0⟩] gsc gpos] X.env = (false, eval (.GeneratorExp (isE p1 p2 p3 p4) [⟨.Name "number" px, iter, [], 0⟩] gsc gpos) X.env) :: starEach [] X.env := by rfl
  refine ⟨fun pins s σ H Q I h => ?_⟩
  obtain ⟨m, hσ, h⟩ := h
  refine wpAny_Call_Name_kw (ld_blt (u := .builtin "all") I hg hm (by decide +kernel) ?_)
  refine PyProof.Rows.callWith_builtin1 ?_ he (by rfl)
  rw [he]
  show wpAny _ _ (spliced ((false, eval (.GeneratorExp (isE p1 p2 p3 p4) [⟨.Name "number" px, iter, [], 0⟩] gsc gpos) X.env) :: backTo pos (starEach [] X.env))) _ _ s
  refine Calls.spliced_cons (gen_lstW (R := fun bs H1 => ∀ H2, GxR.Tabbed P H1 H2 → Q (.bl (bs.all id)) H2) hr TB hcode hi F gF mt mi hN hc hσ hs I h fun bs H1 g s5 hR hG => ?_)
  obtain ⟨fp, wr, G, F', St, W, hst, htr, hI⟩ := hG
  refine Calls.spliced_nil ?_
  refine call_all_walkS (W.self 0 _ _ _ hst ⟨g, fp, wr, G, _, F', St, _, rfl, W, hst, htr, fun s' hmv => ?_⟩)
  obtain ⟨H2, hT, J⟩ := hI s' hmv
  refine ⟨.bl _, H2, J, rfl, ?_⟩
  rw [all_range bs]
  exact hR H2 hT
end
end TA
set_option Elab.async false
set_option linter.all false
set_option maxRecDepth 100000
set_option maxHeartbeats 4000000
namespace TA
open PySem PySem.Spec PyProof.Rows L2
/-! ### what was held is held, tables may have grown -/
def isTbl : HO → Bool
  | .tbl _ => true
  | _ => false
def Sm (H H' : Hp) : Prop := (∀ b o, isTbl o = false → H b = some o → H' b = some o) ∧ ∀ b ps, H b = some (.tbl ps) → ∃ ps', H' b = some (.tbl ps') ∧ (TriplesOk ps.toList → TriplesOk ps'.toList)
theorem Sm.refl (H : Hp) : Sm H H := ⟨fun _ _ _ h => h, fun _ ps h => ⟨ps, h, fun z => z⟩⟩
theorem Sm.trans {H H1 H2 : Hp} (a : Sm H H1) (b : Sm H1 H2) : Sm H H2 := ⟨fun c o n h => b.1 c o n (a.1 c o n h), fun c ps h => by
  obtain ⟨p1, h1, t1⟩ := a.2 c ps h
  obtain ⟨p2, h2, t2⟩ := b.2 c p1 h1
  exact ⟨p2, h2, fun z => t2 (t1 z)⟩⟩
theorem Sm.of {H H' : Hp} (a : Same H H') : Sm H H' := ⟨fun b o _ h => a b o h, fun b ps h => ⟨ps, a b _ h, fun z => z⟩⟩
theorem Sm.free {H H' : Hp} (e : Sm H H') {l : Addr} (h : H' l = Option.none) : H l = Option.none := by
  cases q : H l with
  | none => rfl
  | some o =>
    cases hb : isTbl o with
    | false =>
      rw [e.1 l o hb q] at h
      cases h
    | true =>
      cases o with
      | tbl ps =>
        obtain ⟨p1, h1, _⟩ := e.2 l ps q
        rw [h1] at h
        cases h
      | _ => cases hb
theorem Sm.lst {H H' : Hp} (e : Sm H H') {a : Addr} {xs : List V} (h : H a = some (.lst xs)) : H' a = some (.lst xs) := e.1 a _ rfl h
theorem Sm.tup {H H' : Hp} (e : Sm H H') {a : Addr} {xs : List V} (h : H a = some (.tup xs)) : H' a = some (.tup xs) := e.1 a _ rfl h
theorem Sm.seq {K : PySem.W.Frag} {H H' : Hp} {a : Addr} {xs : List V} (e : Sm H H') (h : SqL K H a xs) : SqL K H' a xs := by
  rcases h with (h | ⟨o, h⟩) | h
  · exact .inl (.inl (e.1 _ _ rfl h))
  · exact .inl (.inr ⟨o, e.1 _ _ rfl h⟩)
  · exact .inr h
theorem Sm.seqT {K : PySem.W.Frag} {H H' : Hp} {a : Addr} {xs : List V} (e : Sm H H') (h : SqT K H a xs) : SqT K H' a xs := by
  rcases h with (h | ⟨o, h⟩) | h
  · exact .inl (.inl (e.1 _ _ rfl h))
  · exact .inl (.inr ⟨o, e.1 _ _ rfl h⟩)
  · exact .inr h
theorem Sm.tab {H H' : Hp} (e : Sm H H') {P : Addr} (h : GxR.TabG H P) : GxR.TabG H' P := by
  obtain ⟨ps, h1, h2⟩ := h
  obtain ⟨p1, h3, h4⟩ := e.2 P ps h1
  exact ⟨p1, h3, h4 h2⟩
theorem Sm.tabbed {H H' : Hp} {P : Addr} (h0 : GxR.TabG H P) (h : GxR.Tabbed P H H') : Sm H H' := by
  obtain ⟨ps, e0, _⟩ := h0
  obtain ⟨⟨p1, e1, t1⟩, k⟩ := h
  refine ⟨fun b o n hb => ?_, fun b q hb => ?_⟩
  · rw [k b (fun z => by rw [z, e0] at hb; cases hb; cases n)]
    exact hb
  · by_cases z : b = P
    · rw [z] at hb ⊢
      exact ⟨p1, e1, fun _ => t1⟩
    · exact ⟨q, by rw [k b z]; exact hb, fun y => y⟩
theorem Sm.new {H H' : Hp} {p : Addr} {o : HO} (s : Sm H H') (h : H p = none) : Sm H (upd H' p o) := ⟨fun b x n e => by
  rw [upd_ne (ne_of_none e h)]
  exact s.1 b x n e, fun b ps e => by
  rw [upd_ne (ne_of_none e h)]
  exact s.2 b ps e⟩
theorem Sm.upd {H : Hp} {p : Addr} {o : HO} (h : H p = none) : Sm H (upd H p o) := Sm.new (Sm.refl H) h
theorem Sm.dK {H H' : Hp} (e : Sm H H') {a : Addr} {xs} (h : H a = some (.dK xs)) : H' a = some (.dK xs) := e.1 a _ rfl h
theorem Sm.tyB {K : PySem.W.Frag} {H H' : Hp} {v : V} {T : String} (e : Sm H H') (h : TyB K H v T) : TyB K H' v T := by
  cases h with
  | non => exact .non
  | bl b => exact .bl b
  | int i => exact .int i
  | str x => exact .str x
  | byt b => exact .byt b
  | lst h => exact .lst (e.seq h)
  | tup h => exact .tup (e.seqT h)
  | dK h => exact .dK (e.dK h)
/-! ### a def whose code object is known -/
structure FunC (K : PySem.W.Frag) (x qual : Str) (st : Stmt) (f : Addr) (fd : FuncData) (c : Addr) : Prop where
  ex : ∃ (oc : Value) (od : Option Addr) (kV doc pm : Value) (an : Option Addr) (ct : Value) (osl : Array (Option Value)),
    fd = PySem.W.fnOf x qual (defArgs st) (defBody st) (defScope st) .none kV doc pm an (.ref c) ct ∧ K.lookup f = some ⟨oc, od, .func fd, osl⟩ ∧ PySem.W.codeIn K (.ref c) qual = true
  kp : PySem.W.keepIn K (.ref f) = true
theorem FunC.fn {K : PySem.W.Frag} {x qual : Str} {st : Stmt} {f : Addr} {fd : FuncData} {c : Addr} (F : FunC K x qual st f fd c) : Fun K x qual st f fd := by
  obtain ⟨oc, od, kV, doc, pm, an, ct, osl, h⟩ := F.ex
  exact ⟨⟨oc, od, kV, doc, pm, an, .ref c, ct, osl, h⟩, F.kp⟩
theorem FunC.ok {P : Program} {w : World} {K : PySem.W.Frag} {mg : Str → Option Value} {base : Heap} {x qual : Str} {st : Stmt} {f c : Addr} {fd : FuncData} {N ps : List Str} {k : Nat} {sp : Sp} (F : FunC K x qual st f fd c) (S : FnScope N ps (defScope st)) (len : ∀ vs H Q E, sp vs H Q E → vs.length = ps.length)
    (hbody : ∀ (A : Around) (outer : List Env) (s : Shared) (H : Hp) (vs : List V) (Q : VK) (E : XK), Room k (A.deeper (envOfC qual (defScope st) s.heap.objs.size f (.ref c))) → sp vs H Q E →
      ∃ t, PSs (cxOf CX0 P w K mg base N qual (defScope st) f (.ref c) A outer s H E).nox (defBody st) t ∧ t { nx := fun _ H' => Q .non H', rt := Q } (start N vs) H) : FnOk P w K mg base CX0 (k + 1) f fd ps sp := by
  obtain ⟨oc, od, kV, doc, pm, an, ct, osl, rfl, lk, hcd⟩ := F.ex
  refine fn_of lk hcd S len fun A outer s H vs Q E hr hsp => ?_
  obtain ⟨t, h, q⟩ := hbody A outer s H vs Q E hr hsp
  exact ⟨t, h.nox, q⟩
section
variable {P : Program} {w : World} {K : PySem.W.Frag} {mg : Str → Option Value} {base : Heap}
/-! ### is_whole_list -/
def spIsWholeList (K : PySem.W.Frag) (T : Addr) : Sp := fun vs H Q _ => ∃ v m, vs = [v, .int m] ∧ GxR.TabG H T ∧ ((∃ ty, TyB K H v ty ∧ ty ≠ "list" ∧ Q (.bl false) H) ∨
  ∃ (a : Addr) (xs : List V) (bs : List Bool), v = .ref a ∧ SqL K H a xs ∧ bs.length = xs.length ∧ (∀ (i : Nat) (y : V) (b : Bool), xs[i]? = some y → bs[i]? = some b → WholeIs K H m y b) ∧ ∀ H', GxR.Tabbed T H H' → Q (.bl (bs.all id)) H')
theorem scIsWholeList : FnScope ["numbers", "least"] ["numbers", "least"] (defScope sIsWholeList) := ⟨rfl, rfl, rfl, by decide +kernel, rfl, by decide +kernel, by decide +kernel⟩
theorem ok_is_whole_list {f c T fW : Addr} {fd fdW : FuncData} (F : FunC K "is_whole_list" "is_whole_list" sIsWholeList f fd c) (TB : GxR.TabB base mg c T) (FW : Fun K "is_whole" "is_whole" sIsWhole fW fdW) (gW : mg "is_whole" = some (.ref fW))
    (mt : mg "type" = none) (mi : mg "int" = none) (ml : mg "list" = none) (ma : mg "all" = none) :
    FnOk P w K mg base CX0 3 f fd ["numbers", "least"] (spIsWholeList K T) := by
  refine F.ok scIsWholeList (fun vs H Q E h => ?_) (fun A outer s H vs Q E hr h => ?_)
  · obtain ⟨v, m, rfl, _⟩ := h
    rfl
  · obtain ⟨v, m, rfl, hT, h⟩ := h
    refine ⟨_, pss_cons (ps_if (pt_cmpR op_isNotTy (pe_callTy call_type1 (by rfl) mt (by decide +kernel) (pa_cons (pv 0) pa_nil)) (pe_bltn (v := .ty "list") (by rfl) ml (by decide +kernel) rfl) (nomark _)) (pss_one (ps_ret pe_bl)) pss_nil)
      (pss_one (ps_ret (pe_allW (k := 0) hr (by rfl) ma TB rfl (pv 0) FW gW mt mi rfl rfl (fun _ => rfl)))), ?_⟩
    rcases h with ⟨ty, hty, ne, q⟩ | ⟨a, xs, bs, rfl, hL, hlen, hbs, q⟩
    · refine ⟨v, rfl, v, ty, rfl, hty, ty, "list", rfl, rfl, _, rfl, ?_⟩
      rw [decide_eq_false ne]
      exact iteT q
    · refine ⟨_, rfl, _, "list", rfl, .lst hL, _, _, rfl, rfl, _, rfl, ?_⟩
      exact iteF ⟨m, rfl, _, rfl, a, xs, bs, rfl, hL, hlen, hbs, hT, q⟩
/-- of ints -/
abbrev wlb (m : Int) (ns : List Int) : List Bool := ns.map fun n => decide (m ≤ n)
theorem wl_len {m : Int} {ns : List Int} : (wlb m ns).length = (ns.map V.int).length := by rw [List.length_map, List.length_map]
theorem wl_each {K : PySem.W.Frag} {H : Hp} {m : Int} {ns : List Int} : ∀ (i : Nat) (y : V) (b : Bool), (ns.map V.int)[i]? = some y → (wlb m ns)[i]? = some b → WholeIs K H m y b := fun i y b hy hb => by
  obtain ⟨u, hu, rfl⟩ := item_of hy
  rw [List.getElem?_map, hu] at hb
  cases hb
  exact ⟨"int", .int u, .inl ⟨u, rfl, rfl⟩⟩
theorem wl_all {m : Int} {ns : List Int} : (wlb m ns).all id = ns.all fun n => decide (m ≤ n) := by
  rw [List.all_map]
  rfl
theorem wl_true {m : Int} {ns : List Int} (h : ∀ n ∈ ns, m ≤ n) : (wlb m ns).all id = true := by
  rw [wl_all]
  exact List.all_eq_true.mpr fun n hn => decide_eq_true (h n hn)
end
end TA
set_option Elab.async false
set_option linter.all false
set_option maxRecDepth 100000
set_option maxHeartbeats 4000000
namespace TA
open PySem PySem.Spec PyProof.Rows L2
/-- the sum's last part is more than the limit, or there is none -/
def lostB (ns : List Int) (l : Int) : Bool := match ns.getLast? with
  | none => true
  | some z => decide (l < z)
theorem lostB_nil (l : Int) : lostB [] l = true := rfl
theorem lostB_snoc (ns : List Int) (z l : Int) : lostB (ns ++ [z]) l = decide (l < z) := by
  unfold lostB
  rw [List.getLast?_append]
  rfl
theorem cases_last (ns : List Int) : ns = [] ∨ ∃ m z, ns = m ++ [z] := by
  rcases List.eq_nil_or_concat ns with h | ⟨m, z, h⟩
  · exact .inl h
  · exact .inr ⟨m, z, by rw [h, List.concat_eq_append]⟩
/-- a class of one field -/
structure One (K : PySem.W.Frag) (mg : Str → Option Value) (nm fld : Str) (C fI : Addr) : Prop where
  cl : Cls K C
  nF : NoAttr K C fld
  mgC : mg nm = some (.ref C)
  mkC : Mk K C fI
abbrev lostF (a : Addr) : List (Str × V) := [(("parts" : Str), V.ref a)]
abbrev wonF (t : Int) : List (Str × V) := [(("taking" : Str), V.int t)]
section
variable {P : Program} {w : World} {K : PySem.W.Frag} {mg : Str → Option Value} {base : Heap}
/-! ### is_lost -/
def spIsLost (K : PySem.W.Frag) : Sp := fun vs H Q _ => ∃ (a : Addr) (ns : List Int) (l : Int), vs = [.ref a, .int l] ∧ SqL K H a (ns.map V.int) ∧ Q (.bl (lostB ns l)) H
theorem scIsLost : FnScope ["parts", "limit"] ["parts", "limit"] (defScope sIsLost) := ⟨rfl, rfl, rfl, by decide +kernel, rfl, by decide +kernel, by decide +kernel⟩
theorem ok_is_lost {f : Addr} {fd : FuncData} (F : Fun K "is_lost" "is_lost" sIsLost f fd) : FnOk P w K mg base CX0 1 f fd ["parts", "limit"] (spIsLost K) := by
  refine F.ok scIsLost (fun vs H Q E h => ?_) (fun cdv A outer s H vs Q E hr h => ?_)
  · obtain ⟨a, ns, l, rfl, _⟩ := h
    rfl
  · obtain ⟨a, ns, l, rfl, hL, q⟩ := h
    refine ⟨_, pss_one (ps_ret (pe_or (pe_notT (pv 0)) (pe_one (pe_cmpR op_gt (pe_ix ix_list (pv 0) (pe_un un_neg pe_int) (fun _ _ => rfl)) (pv 1) (nomark _))))), ?_⟩
    refine ⟨_, rfl, _, .inl ⟨_, hL, rfl⟩, _, rfl, ?_⟩
    rcases cases_last ns with rfl | ⟨m, z, rfl⟩
    · exact iteT q
    · have e : ((m ++ [z]).map V.int).isEmpty = false := by
        rw [List.map_append, List.isEmpty_eq_false_iff]
        simp
      rw [e]
      refine iteF ⟨_, rfl, 1, rfl, a, _, _, _, rfl, rfl, hL, vlast rfl, _, rfl, _, _, rfl, rfl, ?_⟩
      rw [lostB_snoc] at q
      exact q
/-! ### Lost(parts), Won(taking) -/
def spLostInit (K : PySem.W.Frag) (C : Addr) : Sp := fun vs H Q _ => ∃ (p dx a : Addr) (ns : List V), vs = [.ref p, .ref a] ∧ SqL K H a ns ∧ H p = some (.ins C dx []) ∧ ∀ l, H l = none → Q .non (upd (upd H l (.lst ns)) p (.ins C dx (lostF l)))
theorem scLostInit : FnScope ["self", "parts"] ["self", "parts"] (defScope sLostInit) := ⟨rfl, rfl, rfl, by decide +kernel, rfl, by decide +kernel, by decide +kernel⟩
theorem ok_lost_init {f C : Addr} {fd : FuncData} (F : Fun K "__init__" "Lost.__init__" sLostInit f fd) (O : One K mg "Lost" "parts" C f) (ml : mg "list" = none) : FnOk P w K mg base CX0 1 f fd ["self", "parts"] (spLostInit K C) := by
  refine F.ok scLostInit (fun vs H Q E h => ?_) (fun cdv A outer s H vs Q E hr h => ?_)
  · obtain ⟨p, dx, a, ns, rfl, _⟩ := h
    rfl
  · obtain ⟨p, dx, a, ns, rfl, hL, hp, q⟩ := h
    refine ⟨_, pss_one (ps_fld (pv 0) (pe_callTy call_list_of (by rfl) ml (by decide +kernel) (pa_cons (pv 1) pa_nil)) rfl), ?_⟩
    refine ⟨_, rfl, a, _, rfl, .inl hL, fun l nl => ?_⟩
    have npl : p ≠ l := ne_of_none hp nl
    exact ⟨_, rfl, p, C, dx, [], rfl, by rw [upd_ne npl]; exact hp, O.cl, O.nF, by show 0 < 1000; decide, q l nl⟩
def spWonInit (C : Addr) : Sp := fun vs H Q _ => ∃ (p dx : Addr) (t : Int), vs = [.ref p, .int t] ∧ H p = some (.ins C dx []) ∧ Q .non (upd H p (.ins C dx (wonF t)))
theorem scWonInit : FnScope ["self", "taking"] ["self", "taking"] (defScope sWonInit) := ⟨rfl, rfl, rfl, by decide +kernel, rfl, by decide +kernel, by decide +kernel⟩
theorem ok_won_init {f C : Addr} {fd : FuncData} (F : Fun K "__init__" "Won.__init__" sWonInit f fd) (O : One K mg "Won" "taking" C f) : FnOk P w K mg base CX0 1 f fd ["self", "taking"] (spWonInit C) := by
  refine F.ok scWonInit (fun vs H Q E h => ?_) (fun cdv A outer s H vs Q E hr h => ?_)
  · obtain ⟨p, dx, t, rfl, _⟩ := h
    rfl
  · obtain ⟨p, dx, t, rfl, hp, q⟩ := h
    exact ⟨_, pss_one (ps_fld (pv 0) (pv 1) rfl), _, rfl, _, rfl, p, C, dx, [], rfl, hp, O.cl, O.nF, by show 0 < 1000; decide, q⟩
/-! ### left_by -/
def spLeftBy : Sp := fun vs H Q _ => ∃ (f h t : Int), vs = [.int f, .int h, .int t] ∧ 1 ≤ f ∧ f ≤ 30 ∧ ∀ p, H p = none → Q (.ref p) (upd H p (.tup [.int (h - t), .int (f * t)]))
theorem scLeftBy : FnScope ["factor", "heap", "taking"] ["factor", "heap", "taking"] (defScope sLeftBy) := ⟨rfl, rfl, rfl, by decide +kernel, rfl, by decide +kernel, by decide +kernel⟩
theorem ok_left_by {f : Addr} {fd : FuncData} (F : Fun K "left_by" "left_by" sLeftBy f fd) : FnOk P w K mg base CX0 1 f fd ["factor", "heap", "taking"] spLeftBy := by
  refine F.ok scLeftBy (fun vs H Q E h => ?_) (fun cdv A outer s H vs Q E hr h => ?_)
  · obtain ⟨f, h, t, rfl, _⟩ := h
    rfl
  · obtain ⟨f, h, t, rfl, h1, h30, q⟩ := h
    exact ⟨_, pss_one (ps_ret (pe_tup (pa_cons (pe_op op_sub (pv 1) (pv 2)) (pa_cons (pe_op op_mul (pv 0) (pv 2)) pa_nil)))), _, rfl, _, rfl, h, t, rfl, rfl, _, rfl, _, rfl, f, t, rfl, rfl, .inl (f_small h1 h30), (by show 2 ≤ sizeLine; decide), q⟩
end
end TA
set_option Elab.async false
set_option linter.all false
set_option maxRecDepth 100000
set_option maxHeartbeats 4000000
namespace TA
open PySem PySem.Spec PyProof.Rows L2
section
variable {P : Program} {w : World} {K : PySem.W.Frag} {mg : Str → Option Value} {base : Heap}
/-! ### check_limit, check_turn, of what is such -/
theorem scCkLimit : FnScope ["limit"] ["limit"] (defScope sCkLimit) := ⟨rfl, rfl, rfl, by decide +kernel, rfl, by decide +kernel, by decide +kernel⟩
theorem ok_ck_limit {f fW : Addr} {fd fdW : FuncData} (F : Fun K "check_limit" "check_limit" sCkLimit f fd) (FW : Fun K "is_whole" "is_whole" sIsWhole fW fdW) (bW : Binds K fdW ["value", "least"] []) (gW : mg "is_whole" = some (.ref fW))
    (mt : mg "type" = none) (mi : mg "int" = none) :
    FnOk P w K mg base CX0 2 f fd ["limit"] spCkHeap := by
  have GW : FnOk P w K mg base CX0 1 fW fdW ["value", "least"] (spIsWhole K) := ok_is_whole FW mt mi
  refine F.ok scCkLimit (fun vs H Q E h => ?_) (fun cdv A outer s H vs Q E hr h => ?_)
  · obtain ⟨n, rfl, _⟩ := h
    rfl
  · obtain ⟨n, rfl, h1, q⟩ := h
    refine ⟨_, pss_one (ps_if (pt_not (pt_val (pe_call GW hr (by rfl) gW FW.kp bW .nil pass0 (pa_cons (pv 0) (pa_cons pe_int pa_nil))))) pss_never pss_nil), ?_⟩
    refine ⟨_, rfl, _, _, _, rfl, .int n, .inl ⟨n, rfl, _, rfl, ?_⟩⟩
    rw [decide_eq_true h1]
    exact iteF q
def spCkTurn : Sp := fun vs H Q _ => ∃ (f h l : Int), vs = [.int f, .int h, .int l] ∧ 1 ≤ f ∧ f ≤ 30 ∧ 0 ≤ h ∧ 0 ≤ l ∧ Q .non H
theorem scCkTurn : FnScope ["factor", "heap", "limit"] ["factor", "heap", "limit"] (defScope sCkTurn) := ⟨rfl, rfl, rfl, by decide +kernel, rfl, by decide +kernel, by decide +kernel⟩
theorem ok_ck_turn {f fC fN fL : Addr} {fd fdC fdN fdL : FuncData} (F : Fun K "check_turn" "check_turn" sCkTurn f fd)
    (GC : FnOk P w K mg base CX0 2 fC fdC ["factor"] spCkFactor) (kC : PySem.W.keepIn K (.ref fC) = true) (bC : Binds K fdC ["factor"] []) (gC : mg "check_factor" = some (.ref fC))
    (GN : FnOk P w K mg base CX0 2 fN fdN ["heap"] spCkHeap) (kN : PySem.W.keepIn K (.ref fN) = true) (bN : Binds K fdN ["heap"] []) (gN : mg "check_heap" = some (.ref fN))
    (GL : FnOk P w K mg base CX0 2 fL fdL ["limit"] spCkHeap) (kL : PySem.W.keepIn K (.ref fL) = true) (bL : Binds K fdL ["limit"] []) (gL : mg "check_limit" = some (.ref fL)) :
    FnOk P w K mg base CX0 3 f fd ["factor", "heap", "limit"] spCkTurn := by
  refine F.ok scCkTurn (fun vs H Q E h => ?_) (fun cdv A outer s H vs Q E hr h => ?_)
  · obtain ⟨f, h, l, rfl, _⟩ := h
    rfl
  · obtain ⟨f, h, l, rfl, h1, h30, h0, l0, q⟩ := h
    exact ⟨_, pss_cons (ps_expr (pe_call GC hr (by rfl) gC kC bC .nil pass0 (pa_cons (pv 0) pa_nil))) (pss_cons (ps_expr (pe_call GN hr (by rfl) gN kN bN .nil pass0 (pa_cons (pv 1) pa_nil)))
      (pss_one (ps_expr (pe_call GL hr (by rfl) gL kL bL .nil pass0 (pa_cons (pv 2) pa_nil))))), _, rfl, f, rfl, h1, h30, _, rfl, h, rfl, h0, _, rfl, l, rfl, l0, q⟩
/-! ### told -/
def spTold (CL CW : Addr) : Sp := fun vs H Q _ => ∃ (f h l : Int), vs = [.int f, .int h, .int l] ∧ 1 ≤ f ∧ f ≤ 30 ∧ 0 ≤ h ∧ h < Bd ∧ 0 ≤ l ∧
  (lostB (parts f h) l = true → (parts f h).length ≤ 9001 → ∀ (p dx a : Addr) (H' : Hp), Same H H' → H p = none → H a = none → p ≠ a → H' p = some (.ins CL dx (lostF a)) → H' a = some (.lst ((parts f h).map V.int)) → Q (.ref p) H') ∧
  (∀ m t, parts f h = m ++ [t] → t ≤ l → ∀ (p dx : Addr) (H' : Hp), Same H H' → H p = none → H' p = some (.ins CW dx (wonF t)) → Q (.ref p) H')
theorem scTold : FnScope ["factor", "heap", "limit", "parts"] ["factor", "heap", "limit"] (defScope sTold) := ⟨rfl, rfl, rfl, by decide +kernel, rfl, by decide +kernel, by decide +kernel⟩
theorem ok_told {f CL CW fIL fIW fC fS fL : Addr} {fd fdIL fdIW fdC fdS fdL : FuncData} (F : Fun K "told" "told" sTold f fd)
    (OL : One K mg "Lost" "parts" CL fIL) (GIL : FnOk P w K mg base CX0 1 fIL fdIL ["self", "parts"] (spLostInit K CL)) (bIL : Binds K fdIL ["self", "parts"] [])
    (OW : One K mg "Won" "taking" CW fIW) (GIW : FnOk P w K mg base CX0 1 fIW fdIW ["self", "taking"] (spWonInit CW)) (bIW : Binds K fdIW ["self", "taking"] [])
    (GC : FnOk P w K mg base CX0 3 fC fdC ["factor", "heap", "limit"] spCkTurn) (kC : PySem.W.keepIn K (.ref fC) = true) (bC : Binds K fdC ["factor", "heap", "limit"] []) (gC : mg "check_turn" = some (.ref fC))
    (GS : FnOk P w K mg base CX0 3 fS fdS ["factor", "heap"] spSumOf) (kS : PySem.W.keepIn K (.ref fS) = true) (bS : Binds K fdS ["factor", "heap"] []) (gS : mg "sum_of" = some (.ref fS))
    (GL : FnOk P w K mg base CX0 1 fL fdL ["parts", "limit"] (spIsLost K)) (kL : PySem.W.keepIn K (.ref fL) = true) (bL : Binds K fdL ["parts", "limit"] []) (gL : mg "is_lost" = some (.ref fL)) :
    FnOk P w K mg base CX0 4 f fd ["factor", "heap", "limit"] (spTold CL CW) := by
  refine F.ok scTold (fun vs H Q E h => ?_) (fun cdv A outer s H vs Q E hr h => ?_)
  · obtain ⟨f, h, l, rfl, _⟩ := h
    rfl
  · obtain ⟨f, h, l, rfl, h1, h30, h0, hB, l0, qL, qW⟩ := h
    have hr1 : Room 1 _ := hr.mono (by decide)
    have hr2 : Room (1 + 1) _ := hr.mono (by decide)
    refine ⟨_, pss_cons (ps_expr (pe_call GC hr (by rfl) gC kC bC .nil pass0 (pa_cons (pv 0) (pa_cons (pv 1) (pa_cons (pv 2) pa_nil)))))
      (pss_cons (ps_set (i := 3) scTold.nd rfl (Or.inl rfl) (pe_call GS hr (by rfl) gS kS bS .nil pass0 (pa_cons (pv 0) (pa_cons (pv 1) pa_nil))))
      (pss_cons (ps_if (pt_val (pe_call GL hr1 (by rfl) gL kL bL .nil pass0 (pa_cons (pv 3) (pa_cons (pv 2) pa_nil)))) (pss_one (ps_ret (pe_make OL.mkC GIL hr2 (by rfl) OL.mgC bIL .nil pass0 (pa_cons (pv 3) pa_nil)))) pss_nil)
      (pss_one (ps_ret (pe_make OW.mkC GIW hr2 (by rfl) OW.mgC bIW .nil pass0 (pa_cons (pe_ix ix_list (pv 3) (pe_un un_neg pe_int) (fun _ _ => rfl)) pa_nil)))))), ?_⟩
    refine ⟨_, rfl, _, rfl, _, rfl, f, h, l, rfl, h1, h30, h0, l0, ?_⟩
    refine ⟨_, rfl, _, rfl, f, h, rfl, h1, h30, h0, hB, fun r H1 hlen s1 nr hR => ?_⟩
    refine ⟨_, rfl, _, rfl, r, _, l, rfl, SqL.of hR, _, rfl, ?_⟩
    by_cases c : lostB (parts f h) l = true
    · rw [c]
      refine iteT ⟨_, rfl, fun x dx nx ndx nex => ?_⟩
      have sx : Same H1 (upd (upd H1 dx (.own x)) x (.ins CL dx [])) := same_new (same_upd ndx) nx
      refine ⟨x, dx, r, _, rfl, SqL.of (sx _ _ hR), upd_same, fun a na => ⟨rfl, ?_⟩⟩
      have nax : x ≠ a := ne_of_none upd_same na
      have na1 : H1 a = none := sx.free na
      refine qL c hlen x dx a _ ?_ (s1.free nx) (s1.free na1) nax upd_same (by rw [upd_ne (Ne.symm nax)]; exact upd_same)
      exact s1.trans (same_new (sx.trans (same_upd na)) nx)
    · rw [Bool.eq_false_iff.mpr c]
      refine iteF ?_
      rcases cases_last (parts f h) with e | ⟨m, t, e⟩
      · exact absurd (by rw [e]; rfl) c
      · rw [e] at hR c
        refine ⟨_, rfl, 1, rfl, r, _, _, _, rfl, rfl, SqL.of hR, vlast rfl, fun x dx nx ndx nex => ?_⟩
        refine ⟨x, dx, t, rfl, upd_same, rfl, ?_⟩
        rw [lostB_snoc] at c
        have sx : Same H1 (upd (upd H1 dx (.own x)) x (.ins CW dx [])) := same_new (same_upd ndx) nx
        refine qW m t e (by have := of_decide_eq_false (Bool.eq_false_iff.mpr c); omega) x dx _ ?_ (s1.free nx) upd_same
        exact s1.trans (same_new sx nx)
end
end TA
set_option Elab.async false
set_option linter.all false
set_option maxRecDepth 100000
set_option maxHeartbeats 4000000
namespace TA
open PySem PySem.Spec PyProof.Rows L2
/-! ### isinstance of the two answers -/
structure IsF (K : PySem.W.Frag) (CL CW : Addr) : Prop where
  haL : PySem.W.findIn K (.ref CL) "__class__" = some (some (.builtin "object.__class__"))
  hmL : PySem.W.mroIn K CL (.type "object") = some true
  haW : PySem.W.findIn K (.ref CW) "__class__" = some (some (.builtin "object.__class__"))
  hmW : PySem.W.mroIn K CW (.type "object") = some true
  hn : PySem.W.specialIn K (.builtin "object.__class__") "__get__" = some (some (.builtin "getset_descriptor.__get__"))
  htk : PySem.W.takesIn K (.builtin "object.__class__") = some true
  kLL : PySem.W.kitOne K (.ref CL) (.ref CL) = some true
  kLW : PySem.W.kitOne K (.ref CL) (.ref CW) = some false
  kWL : PySem.W.kitOne K (.ref CW) (.ref CL) = some false
  kWW : PySem.W.kitOne K (.ref CW) (.ref CW) = some true
theorem IsF.tyL {K : PySem.W.Frag} {mg : Str → Option Value} {CL CW fI p dx : Addr} {H : Hp} {fs : List (Str × V)} (I : IsF K CL CW) (O : One K mg "Lost" "parts" CL fI) (h : H p = some (.ins CL dx fs)) : TyX K H (.ref p) (.ref CL) := .base (.ins h O.cl I.haL I.hn I.htk I.hmL)
theorem IsF.tyW {K : PySem.W.Frag} {mg : Str → Option Value} {CL CW fI p dx : Addr} {H : Hp} {fs : List (Str × V)} (I : IsF K CL CW) (O : One K mg "Won" "taking" CW fI) (h : H p = some (.ins CW dx fs)) : TyX K H (.ref p) (.ref CW) := .base (.ins h O.cl I.haW I.hn I.htk I.hmW)
end TA
set_option Elab.async false
set_option linter.all false
set_option maxRecDepth 100000
set_option maxHeartbeats 4000000
namespace TA
open PySem PySem.Spec PyProof.Rows L2
section
variable {X : Cx}
theorem op_mulX : OpR X (binaryOp .Mult) (rI IntMulOk fun i j => .int (i * j)) := opI fun _ _ _ _ _ _ _ hc q => mul_int q hc
end
def Bits (c : Int) : Prop := Builtin.Int.intBits c ≤ 1048576
theorem bits_sum {c d : Int} (h : Bits c) (hd : Builtin.Int.intBits d ≤ 64) : Builtin.Int.intBits (c + d) ≤ 1048577 := by
  have := PySem.intBits_add_le h hd
  have e : max 1048576 64 + 1 = 1048577 := by decide
  rw [e] at this
  exact this
theorem bits64 {k : Int} (h1 : -(2 ^ 40) < k) (h2 : k < 2 ^ 40) : Builtin.Int.intBits k ≤ 64 := by
  have e1 : (2 : Int) ^ 40 = 1099511627776 := by decide
  have e2 : (2 : Int) ^ 64 = 18446744073709551616 := by decide
  exact intBits_le_64 (by omega) (by omega)
def prm : List Int := [1000003, 1000033, 1000037, 1000039, 1000081, 1000099, 1000117, 1000121, 1000133, 1000151, 1000159, 1000171, 1000183, 1000187, 1000193, 1000199]
theorem prm_at {k : Int} : ∃ p, atI (prm.map V.int) (k % 16) = some (.int p) ∧ 0 < p := by
  have h0 := Int.emod_nonneg k (show (16 : Int) ≠ 0 by decide)
  have h1 := Int.emod_lt_of_pos k (show (0 : Int) < 16 by decide)
  have hl : (k % 16).toNat < prm.length := by show (k % 16).toNat < 16; omega
  refine ⟨prm[(k % 16).toNat], vat h0 (List.getElem?_eq_getElem hl), ?_⟩
  have all : ∀ x ∈ prm, (0 : Int) < x := by decide
  exact all _ (List.getElem_mem hl)
section
variable {P : Program} {w : World} {K : PySem.W.Frag} {mg : Str → Option Value} {base : Heap}
/-! ### _law_cell_at -/
def spCellAt (K : PySem.W.Frag) : Sp := fun vs H Q _ => ∃ (a : Addr) (ns : List Int) (k : Int), vs = [.ref a, .int k] ∧ SqL K H a (ns.map V.int) ∧ 0 ≤ k ∧ ∀ v, (v = 0 ∨ v ∈ ns) → Q (.int v) H
theorem scCellAt : FnScope ["_law_script", "_law_k"] ["_law_script", "_law_k"] (defScope sCellAt) := ⟨rfl, rfl, rfl, by decide +kernel, rfl, by decide +kernel, by decide +kernel⟩
theorem ok_cell_at {f : Addr} {fd : FuncData} (F : Fun K "_law_cell_at" "_law_cell_at" sCellAt f fd) (ml : mg "len" = none) :
    FnOk P w K mg base CX0 1 f fd ["_law_script", "_law_k"] (spCellAt K) := by
  refine F.ok scCellAt (fun vs H Q E h => ?_) (fun cdv A outer s H vs Q E hr h => ?_)
  · obtain ⟨a, ns, k, rfl, _⟩ := h
    rfl
  · obtain ⟨a, ns, k, rfl, hS, k0, q⟩ := h
    refine ⟨_, pss_cons (ps_if (pt_cmpR op_lt (pv 1) (pe_callB call_len_seq (by rfl) ml PySem.boot_len (pa_cons (pv 0) pa_nil)) (nomark _)) (pss_one (ps_ret (pe_ix ix_list (pv 0) (pv 1) (fun _ _ => rfl)))) pss_nil)
      (pss_one (ps_ret pe_int)), ?_⟩
    refine ⟨_, rfl, .ref a, rfl, a, _, rfl, .inl hS, _, _, rfl, rfl, _, rfl, ?_⟩
    refine ite2 (fun c => ?_) (fun c => ?_)
    · have c' : k < (((ns.map V.int).length : Nat) : Int) := of_decide_eq_true c
      rw [List.length_map] at c'
      have hl : k.toNat < ns.length := by omega
      exact ⟨.ref a, rfl, .int k, rfl, a, _, _, _, rfl, rfl, hS, vat k0 (List.getElem?_eq_getElem hl), q _ (.inr (List.getElem_mem hl))⟩
    · exact q 0 (.inl rfl)
/-! ### _law_draw -/
def spDraw : Sp := fun vs H Q _ => ∃ (c k m : Int), vs = [.int c, .int k, .int m] ∧ 0 < m ∧ ∀ v H', 0 ≤ v → v < m → Same H H' → Q (.int v) H'
theorem scDraw : FnScope ["_law_cell", "_law_k", "_law_many", "_law_primes"] ["_law_cell", "_law_k", "_law_many"] (defScope sDraw) := ⟨rfl, rfl, rfl, by decide +kernel, rfl, by decide +kernel, by decide +kernel⟩
theorem big64 {j : Int} (h1 : -1000000000 ≤ j) (h2 : j ≤ 1000000000) : -(2 ^ 64) < j ∧ j < 2 ^ 64 := by
  have : (2 : Int) ^ 64 = 18446744073709551616 := by decide
  omega
theorem ok_draw {f : Addr} {fd : FuncData} (F : Fun K "_law_draw" "_law_draw" sDraw f fd) :
    FnOk P w K mg base CX0 1 f fd ["_law_cell", "_law_k", "_law_many"] spDraw := by
  refine F.ok scDraw (fun vs H Q E h => ?_) (fun cdv A outer s H vs Q E hr h => ?_)
  · obtain ⟨c, k, m, rfl, _⟩ := h
    rfl
  · obtain ⟨c, k, m, rfl, m0, q⟩ := h
    refine ⟨_, pss_cons (ps_set (i := 3) scDraw.nd rfl (Or.inl rfl) (pe_tup (pa_cons pe_int (pa_cons pe_int (pa_cons pe_int (pa_cons pe_int (pa_cons pe_int (pa_cons pe_int (pa_cons pe_int (pa_cons pe_int
        (pa_cons pe_int (pa_cons pe_int (pa_cons pe_int (pa_cons pe_int (pa_cons pe_int (pa_cons pe_int (pa_cons pe_int (pa_cons pe_int pa_nil))))))))))))))))))
      (pss_one (ps_ret (pe_op op_mod (pe_op op_mod (pe_op op_add (pe_op op_mul (pv 0) pe_int) (pe_op op_mul (pv 1) pe_int)) (pe_ix ix_tup (pv 3) (pe_op op_mod (pv 1) pe_int) (fun _ _ => rfl))) (pv 2)))), ?_⟩
    refine ⟨(by show 16 ≤ sizeLine; decide), fun t nt => ?_⟩
    obtain ⟨p, hp, p0⟩ := prm_at (k := k)
    refine ⟨_, rfl, c, 48271, rfl, rfl, .inr (big64 (by decide) (by decide)), _, rfl, k, 69621, rfl, rfl, .inr (big64 (by decide) (by decide)), _, _, rfl, rfl, _, rfl, _, rfl, k, 16, rfl, rfl, (by show (0 : Int) < 16; decide),
      t, prm.map V.int, _, _, rfl, rfl, SqT.of upd_same, hp, _, _, rfl, rfl, p0, _, rfl, _, _, rfl, rfl, m0, ?_⟩
    exact q _ _ (Int.emod_nonneg _ (by omega)) (Int.emod_lt_of_pos _ m0) (same_upd nt)
end
end TA
set_option Elab.async false
set_option linter.all false
set_option maxRecDepth 100000
set_option maxHeartbeats 4000000
namespace TA
open PySem PySem.Spec PyProof.Rows L2
/-! ### who wins, as a table has it -/
def W (f h l : Int) : Bool := !lostB (parts f h) l
theorem lost_min {f h m L : Int} (h1 : 1 ≤ f) (hm : h ≤ m) : lostB (parts f h) (min m L) = lostB (parts f h) L := by
  rcases cases_last (parts f h) with e | ⟨p, z, e⟩
  · rw [e]; rfl
  · have hz := (parts_mem h1 z (by rw [e]; simp)).2
    rw [e, lostB_snoc, lostB_snoc]
    by_cases c : L < z
    · rw [decide_eq_true c, decide_eq_true (by omega)]
    · rw [decide_eq_false c, decide_eq_false (by omega)]
theorem W_zero {f h : Int} (h1 : 1 ≤ f) : W f h 0 = false := by
  unfold W
  rcases cases_last (parts f h) with e | ⟨p, z, e⟩
  · rw [e]; rfl
  · have hz := (parts_mem h1 z (by rw [e]; simp)).1
    rw [e, lostB_snoc, decide_eq_true (by omega)]
    rfl
theorem W_step {f h l : Int} (h1 : 1 ≤ f) (h0 : 0 ≤ h) (l1 : 1 ≤ l) : W f h l = (W f h (l - 1) || (decide (l ≤ h) && !W f (h - l) (f * l))) := by
  unfold W
  rw [Bool.not_not]
  rcases cases_last (parts f h) with e | ⟨p, z, e⟩
  · have hs := (parts_ok h1 h0).1
    rw [e] at hs
    have : h = 0 := by simpa using hs.symm
    rw [e, decide_eq_false (show ¬ l ≤ h by omega)]
    rfl
  · have hz := parts_mem h1 z (by rw [e]; simp)
    rw [e, lostB_snoc, lostB_snoc]
    rcases Int.lt_trichotomy l z with c | c | c
    · rw [decide_eq_true c, decide_eq_true (show l - 1 < z by omega)]
      by_cases c2 : l ≤ h
      · obtain ⟨m', y, e2, hy⟩ := lost_none h1 h0 e (show 0 < l by omega) c
        rw [e2, lostB_snoc, decide_eq_false (show ¬ f * l < y by omega)]
        simp
      · rw [decide_eq_false c2]
        rfl
    · have eb := parts_but h1 h0 e
      rw [c, decide_eq_false (show ¬ z < z by omega), decide_eq_true (show z - 1 < z by omega), decide_eq_true hz.2, eb]
      have : lostB p (f * z) = true := by
        rcases cases_last p with rfl | ⟨m', y, rfl⟩
        · rfl
        · rw [lostB_snoc]
          have hc := (parts_ok h1 h0).2
          rw [e, List.append_assoc] at hc
          exact decide_eq_true (ch_last m' y z hc)
      rw [this]
      rfl
    · rw [decide_eq_false (show ¬ l < z by omega), decide_eq_false (show ¬ l - 1 < z by omega)]
      rfl
theorem last_of {m : List Int} {t : Int} {ns : List Int} (e : ns = m ++ [t]) : ns.getLast? = some t := by
  rw [e, List.getLast?_append]
  rfl
/-- of a taking that wins -/
theorem won_rest {f h t : Int} {m : List Int} (h1 : 1 ≤ f) (h0 : 0 ≤ h) (e : parts f h = m ++ [t]) : W f (h - t) (f * t) = false := by
  unfold W
  rw [parts_but h1 h0 e]
  rcases cases_last m with rfl | ⟨m', y, rfl⟩
  · rfl
  · rw [lostB_snoc]
    have hc := (parts_ok h1 h0).2
    rw [e, List.append_assoc] at hc
    rw [decide_eq_true (ch_last m' y t hc)]
    rfl
theorem W_min {f h m L : Int} (h1 : 1 ≤ f) (hm : h ≤ m) : W f h (min m L) = W f h L := by
  unfold W
  rw [lost_min h1 hm]
theorem min2 {i j : Int} : (if j < i then j else i) = min i j := by
  by_cases c : j < i
  · rw [if_pos c]; omega
  · rw [if_neg c]; omega
abbrev ky (h l : Int) : List Key := [.inl h, .inl l]
theorem ky_inj {h l h' l' : Int} (e : ky h l = ky h' l') : h = h' ∧ l = l' := by
  injection e with e1 e2
  injection e2 with e3 _
  exact ⟨Sum.inl.inj e1, Sum.inl.inj e3⟩
theorem mem_put {kvs : List (List Key × V)} {k : List Key} {v : V} {e : List Key × V} (h : e ∈ putK kvs k v) : e.1 = k ∨ ∃ v', (e.1, v') ∈ kvs := by
  unfold putK at h
  split at h
  · obtain ⟨x, hx, rfl⟩ := List.mem_map.mp h
    by_cases c : x.1 = k
    · rw [if_pos c]; exact .inl c
    · rw [if_neg c]; exact .inr ⟨x.2, hx⟩
  · rcases List.mem_append.mp h with q | q
    · exact .inr ⟨e.2, q⟩
    · rw [List.mem_singleton.mp q]; exact .inl rfl
/-- the table is right for all heaps below n, and for n by the limits below k -/
structure Tp (f m n k : Int) (kvs : List (List Key × V)) : Prop where
  val : ∀ h l, 0 ≤ h → 0 ≤ l → l ≤ m → (h < n ∨ (h = n ∧ l < k)) → valV kvs (ky h l) = some (.bl (W f h l))
  mem : ∀ e ∈ kvs, ∃ h l, e.1 = ky h l ∧ 0 ≤ h ∧ h ≤ m ∧ 0 ≤ l ∧ l ≤ m
theorem Tp.put {f m n k : Int} {kvs : List (List Key × V)} (T : Tp f m n k kvs) (n0 : 0 ≤ n) (nm : n ≤ m) (k0 : 0 ≤ k) (km : k ≤ m) : Tp f m n (k + 1) (putK kvs (ky n k) (.bl (W f n k))) := by
  refine ⟨fun h l h0 l0 lm hc => ?_, fun e he => ?_⟩
  · rw [valV_put]
    by_cases c : ky h l = ky n k
    · obtain ⟨rfl, rfl⟩ := ky_inj c
      rw [if_pos rfl]
    · rw [if_neg c]
      refine T.val h l h0 l0 lm ?_
      rcases hc with q | ⟨rfl, q⟩
      · exact .inl q
      · refine .inr ⟨rfl, ?_⟩
        have : l ≠ k := fun z => c (by rw [z])
        omega
  · rcases mem_put he with q | ⟨v', q⟩
    · exact ⟨n, k, q, n0, nm, k0, km⟩
    · obtain ⟨h, l, e1, r⟩ := T.mem _ q
      exact ⟨h, l, e1, r⟩
theorem Tp.next {f m n : Int} {kvs : List (List Key × V)} (T : Tp f m n (m + 1) kvs) : Tp f m (n + 1) 0 kvs :=
  ⟨fun h l h0 l0 lm hc => T.val h l h0 l0 lm (by omega), T.mem⟩
section
variable {P : Program} {w : World} {K : PySem.W.Frag} {mg : Str → Option Value} {base : Heap}
/-- a def of the text that keeps its promise, as its callers want it -/
def Df (P : Program) (w : World) (K : PySem.W.Frag) (mg : Str → Option Value) (base : Heap) (x : Str) (k : Nat) (ps : List Str) (sp : Sp) : Prop :=
  ∃ (f : Addr) (fd : FuncData), FnOk P w K mg base CX0 k f fd ps sp ∧ PySem.W.keepIn K (.ref f) = true ∧ Binds K fd ps [] ∧ mg x = some (.ref f)
/-! ### _law_won -/
def spWon : Sp := fun vs H Q _ => ∃ (f m : Int), vs = [.int f, .int m] ∧ 1 ≤ f ∧ f ≤ 30 ∧ 0 ≤ m ∧ m ≤ 30 ∧ ∀ (d : Addr) (H' : Hp) (kvs : List (List Key × V)), Same H H' → H d = none → H' d = some (.dT kvs) → Tp f m (m + 1) 0 kvs → Q (.ref d) H'
abbrev nWon : List Str := ["_law_factor", "_law_most", "_law_found", "_law_heap", "_law_limit", "_law_good"]
theorem scWon : FnScope nWon ["_law_factor", "_law_most"] (defScope sLawWon) := ⟨rfl, rfl, rfl, by decide +kernel, rfl, by decide +kernel, by decide +kernel⟩
theorem ok_won {f : Addr} {fd : FuncData} (F : Fun K "_law_won" "_law_won" sLawWon f fd) (m_range : mg "range" = none) (m_min : mg "min" = none) :
    FnOk P w K mg base CX0 1 f fd ["_law_factor", "_law_most"] spWon := by
  refine F.ok scWon (fun vs H Q E h => ?_) (fun cdv A outer s H vs Q E hr h => ?_)
  · obtain ⟨f, m, rfl, _⟩ := h
    rfl
  · obtain ⟨f, m, rfl, h1, h30, m0, m30, q⟩ := h
    refine ⟨_, (pss_cons (ps_set (i := 2) scWon.nd rfl (Or.inl rfl) pe_dnewT)
      (pss_cons (ps_for PassesOwn.never rfl (pi_range1 (by rfl) m_range (pa_cons (pe_op op_add (pv 1) pe_int) pa_nil)) (pg_name (i := 3) scWon.nd rfl (Or.inl rfl))
        (pss_cons (ps_dput (hu_of hr) (pv 2) (pe_tup (pa_cons (pv 3) (pa_cons pe_int pa_nil))) pe_bl rfl)
        (pss_one (ps_for PassesOwn.never rfl (pi_range2 (by rfl) m_range (pa_cons pe_int (pa_cons (pe_op op_add (pv 1) pe_int) pa_nil))) (pg_name (i := 4) scWon.nd rfl (Or.inl rfl))
          (pss_cons (ps_set (i := 5) scWon.nd rfl (Or.inl rfl) (pe_dget (hu_of hr) (pv 2) (pe_tup (pa_cons (pv 3) (pa_cons (pe_op op_sub (pv 4) pe_int) pa_nil))) (fun _ _ => rfl)))
          (pss_cons (ps_if (pt_cmpR op_le (pv 4) (pv 3) (nomark _)) (pss_one (ps_set (i := 5) scWon.nd rfl (Or.inl rfl) (pe_or (pv 5) (pe_one (pe_not (pe_dget (hu_of hr) (pv 2) (pe_tup (pa_cons (pe_op op_sub (pv 3) (pv 4)) (pa_cons (pe_callB (call_min2 rfl) (by rfl) m_min (by decide +kernel) (pa_cons (pv 1) (pa_cons (pe_op op_mul (pv 0) (pv 4)) pa_nil))) pa_nil))) (fun _ _ => rfl))))))) pss_nil)
          (pss_one (ps_dput (hu_of hr) (pv 2) (pe_tup (pa_cons (pv 3) (pa_cons (pv 4) pa_nil))) (pv 5) rfl))))))))
      (pss_one (ps_ret (pv 2))))), ?_⟩
    have small2 : (2 : Nat) ≤ sizeLine := by decide
    have small : ∀ {n : Nat}, n ≤ 100000 → n < sizeLine := fun h => Nat.lt_of_le_of_lt h (by decide)
    refine fun d nd => ?_
    refine ⟨_, rfl, m, 1, rfl, rfl, m + 1, rfl, by omega, by omega, for_range (n := (m + 1).toNat) (fun i σ H' => ∃ v3 v4 v5 kvs, σ = [some (.int f), some (.int m), some (.ref d), v3, v4, v5] ∧ Same H H' ∧ H' d = some (.dT kvs) ∧ Tp f m (i : Int) 0 kvs ∧ kvs.length ≤ i * 31) ⟨none, none, none, [], rfl, same_upd nd, upd_same, ⟨fun h l h0 l0 lm hc => by omega, fun e he => by cases he⟩, Nat.le_refl _⟩ ?_ ?_⟩
    · rintro i σ H1 hi ⟨v3, v4, v5, kvs, rfl, s1, hd1, T1, l1⟩
      have im : (i : Int) ≤ m := by omega
      -- found[heap, 0] = False
      refine ⟨_, rfl, _, rfl, small2, fun b nb => ?_⟩
      have hd2 : (upd H1 b (.tup [.int (0 + (i : Int)), .int 0])) d = some (.dT kvs) := by rw [upd_ne (ne_of_none hd1 nb)]; exact hd1
      have eb : (upd H1 b (.tup [.int (0 + (i : Int)), .int 0])) b = some (.tup ((ky (0 + (i : Int)) 0).map kV)) := upd_same
      have s2 : Same H (upd H1 b (.tup [.int (0 + (i : Int)), .int 0])) := s1.trans (same_upd nb)
      refine ⟨d, _, rfl, DPut.t hd2 eb (small (by omega)), ?_⟩
      have ez : (0 : Int) + (i : Int) = (i : Int) := by omega
      rw [ez] at eb s2 hd2 ⊢
      have T2 := T1.put (by omega) im (Int.le_refl 0) m0
      rw [W_zero h1] at T2
      have s3 : Same H (upd (upd H1 b (.tup [.int (i : Int), .int 0])) d (.dT (putK kvs (ky (i : Int) 0) (.bl false)))) := same_new s2 nd
      have hd3 : (upd (upd H1 b (.tup [.int (i : Int), .int 0])) d (.dT (putK kvs (ky (i : Int) 0) (.bl false)))) d = some (.dT (putK kvs (ky (i : Int) 0) (.bl false))) := upd_same
      have l2 := length_putK kvs (ky (i : Int) 0) (.bl false)
      generalize upd (upd H1 b (.tup [.int (i : Int), .int 0])) d (.dT (putK kvs (ky (i : Int) 0) (.bl false))) = H3 at s3 hd3
      generalize putK kvs (ky (i : Int) 0) (.bl false) = kv2 at T2 hd3 l2
      have e01 : (0 : Int) + 1 = 1 + ((0 : Nat) : Int) := rfl
      rw [e01] at T2
      -- for limit in range(1, most + 1)
      refine ⟨_, rfl, m, 1, rfl, rfl, 1, m + 1, rfl, by omega, for_range (lo := 1) (n := (m + 1 - 1).toNat) (fun j σ H' => ∃ v4 v5 kvs, σ = [some (.int f), some (.int m), some (.ref d), some (.int (i : Int)), v4, v5] ∧ Same H H' ∧ H' d = some (.dT kvs) ∧ Tp f m (i : Int) (1 + (j : Int)) kvs ∧ kvs.length ≤ i * 31 + 1 + j) ⟨v4, v5, kv2, rfl, s3, hd3, T2, by omega⟩ ?_ ?_⟩
      · rintro j σ H4 hj ⟨v4, v5, kv4, rfl, s4, hd4, T4, l4⟩
        have jm : 1 + (j : Int) ≤ m := by omega
        generalize hl : 1 + (j : Int) = l at T4 jm
        have l1' : 1 ≤ l := by omega
        -- good = found[heap, limit - 1]
        refine ⟨_, rfl, _, rfl, _, rfl, l, 1, rfl, rfl, small2, fun b nb => ?_⟩
        have hd5 : (upd H4 b (.tup [.int (i : Int), .int (l - 1)])) d = some (.dT kv4) := by rw [upd_ne (ne_of_none hd4 nb)]; exact hd4
        have eb5 : (upd H4 b (.tup [.int (i : Int), .int (l - 1)])) b = some (.tup ((ky (i : Int) (l - 1)).map kV)) := upd_same
        have s5 : Same H (upd H4 b (.tup [.int (i : Int), .int (l - 1)])) := s4.trans (same_upd nb)
        have g5 := DGet.t hd5 eb5
        rw [T4.val (i : Int) (l - 1) (by omega) (by omega) (by omega) (.inr ⟨rfl, by omega⟩)] at g5
        refine ⟨d, _, rfl, g5, ?_⟩
        generalize upd H4 b (.tup [.int (i : Int), .int (l - 1)]) = H5 at hd5 s5
        have st := W_step (f := f) (h := (i : Int)) (l := l) h1 (by omega) l1'
        -- found[heap, limit] = good
        have fin : ∀ H6, Same H H6 → H6 d = some (.dT kv4) → ∀ g : Bool, g = W f (i : Int) l → sDPut (tVar 2) (tTup (tCons (tVar 3) (tCons (tVar 4) tNil))) (tVar 5)
            ⟨fun σ H' => ∃ v4 v5 kvs, σ = [some (.int f), some (.int m), some (.ref d), some (.int (i : Int)), v4, v5] ∧ Same H H' ∧ H' d = some (.dT kvs) ∧ Tp f m (i : Int) (1 + ((j + 1 : Nat) : Int)) kvs ∧ kvs.length ≤ i * 31 + 1 + (j + 1), fun _ _ => _root_.True, fun _ _ => _root_.True, fun _ _ => _root_.True⟩
            [some (.int f), some (.int m), some (.ref d), some (.int (i : Int)), some (.int l), some (.bl g)] H6 := fun H6 s6 hd6 g eg => by
          refine ⟨_, rfl, _, rfl, _, rfl, _, rfl, small2, fun b2 nb2 => ?_⟩
          have hd7 : (upd H6 b2 (.tup [.int (i : Int), .int l])) d = some (.dT kv4) := by rw [upd_ne (ne_of_none hd6 nb2)]; exact hd6
          have eb7 : (upd H6 b2 (.tup [.int (i : Int), .int l])) b2 = some (.tup ((ky (i : Int) l).map kV)) := upd_same
          refine ⟨d, _, rfl, DPut.t hd7 eb7 (small (by omega)), _, _, _, rfl, same_new (s6.trans (same_upd nb2)) nd, upd_same, ?_, ?_⟩
          · rw [eg]
            have := T4.put (by omega) im (by omega) jm
            have e1 : 1 + ((j + 1 : Nat) : Int) = l + 1 := by omega
            rw [e1]
            exact this
          · have := length_putK kv4 (ky (i : Int) l) (.bl g)
            omega
        refine ⟨_, rfl, _, rfl, l, (i : Int), rfl, rfl, _, rfl, ?_⟩
        refine ite2 (fun cl => ?_) (fun cl => ?_)
        · have cl' : l ≤ (i : Int) := of_decide_eq_true cl
          rw [decide_eq_true cl'] at st
          refine ⟨_, rfl, _, rfl, ?_⟩
          by_cases cw : W f (i : Int) (l - 1) = true
          · rw [cw] at st ⊢
            exact iteT (fin H5 s5 hd5 true st.symm)
          · rw [Bool.eq_false_iff.mpr cw] at st ⊢
            refine iteF ⟨_, rfl, _, rfl, _, rfl, (i : Int), l, rfl, rfl, _, rfl, _, rfl, _, rfl, f, l, rfl, rfl, .inl (f_small h1 h30), m, f * l, rfl, ?_⟩
            rw [min2]
            refine ⟨small2, fun b3 nb3 => ?_⟩
            have hd6 : (upd H5 b3 (.tup [.int ((i : Int) - l), .int (min m (f * l))])) d = some (.dT kv4) := by rw [upd_ne (ne_of_none hd5 nb3)]; exact hd5
            have eb6 : (upd H5 b3 (.tup [.int ((i : Int) - l), .int (min m (f * l))])) b3 = some (.tup ((ky ((i : Int) - l) (min m (f * l))).map kV)) := upd_same
            have fp : 0 ≤ f * l := Int.mul_nonneg (by omega) (by omega)
            have g6 := DGet.t hd6 eb6
            rw [T4.val ((i : Int) - l) (min m (f * l)) (by omega) (by omega) (by omega) (.inl (by omega)), W_min h1 (by omega)] at g6
            refine ⟨d, _, rfl, g6, _, rfl, fin _ (s5.trans (same_upd nb3)) hd6 _ ?_⟩
            rw [st]
            simp
        · have cl' : ¬ l ≤ (i : Int) := of_decide_eq_false (Bool.eq_false_iff.mpr cl)
          rw [decide_eq_false cl', Bool.false_and, Bool.or_false] at st
          exact fin H5 s5 hd5 _ st.symm
      · rintro σ H4 ⟨v4, v5, kv4, rfl, s4, hd4, T4, l4⟩
        have e1 : 1 + (((m + 1 - 1).toNat : Nat) : Int) = m + 1 := by omega
        rw [e1] at T4
        refine ⟨_, _, _, kv4, rfl, s4, hd4, ?_, by omega⟩
        have e2 : ((i + 1 : Nat) : Int) = (i : Int) + 1 := by omega
        rw [e2]
        exact T4.next
    · rintro σ H1 ⟨v3, v4, v5, kvs, rfl, s1, hd1, T1, l1⟩
      have e1 : (((m + 1).toNat : Nat) : Int) = m + 1 := by omega
      rw [e1] at T1
      exact ⟨.ref d, rfl, q d H1 kvs s1 nd hd1 T1⟩
end
end TA
set_option Elab.async false
set_option linter.all false
set_option maxRecDepth 100000
set_option maxHeartbeats 4000000
namespace TA
open PySem PySem.Spec PyProof.Rows L2
theorem tf : decide (V.bl true = V.bl false) = false := decide_eq_false fun z => by cases z
theorem ft : decide (V.bl false = V.bl true) = false := decide_eq_false fun z => by cases z
section
variable {P : Program} {w : World} {K : PySem.W.Frag} {mg : Str → Option Value} {base : Heap}
/-! ### _law_right -/
def spRight : Sp := fun vs H Q _ => ∃ (f m : Int), vs = [.int f, .int m] ∧ 1 ≤ f ∧ f ≤ 30 ∧ 0 ≤ m ∧ m ≤ 30 ∧ ∀ H', Same H H' → Q (.bl true) H'
abbrev nRight : List Str := ["_law_factor", "_law_most", "_law_won_here", "_law_heap", "_law_limit", "_law_found"]
theorem scRight : FnScope nRight ["_law_factor", "_law_most"] (defScope sRight) := ⟨rfl, rfl, rfl, by decide +kernel, rfl, by decide +kernel, by decide +kernel⟩
theorem ok_right {f CL CW fIL fIW : Addr} {fd : FuncData} (F : Fun K "_law_right" "_law_right" sRight f fd) (OL : One K mg "Lost" "parts" CL fIL) (OW : One K mg "Won" "taking" CW fIW) (II : IsF K CL CW)
    (D_l_won : Df P w K mg base "_law_won" 1 ["_law_factor", "_law_most"] spWon)
    (D_told : Df P w K mg base "told" 4 ["factor", "heap", "limit"] (spTold CL CW))
    (m_isinstance : mg "isinstance" = none) (m_min : mg "min" = none) :
    FnOk P w K mg base CX0 5 f fd ["_law_factor", "_law_most"] spRight := by
  refine F.ok scRight (fun vs H Q E h => ?_) (fun cdv A outer s H vs Q E hr h => ?_)
  · obtain ⟨f, m, rfl, _⟩ := h
    rfl
  · obtain ⟨f, m, rfl, h1, h30, m0, m30, q⟩ := h
    obtain ⟨f_l_won, fd_l_won, G_l_won, k_l_won, b_l_won, g_l_won⟩ := D_l_won
    obtain ⟨f_told, fd_told, G_told, k_told, b_told, g_told⟩ := D_told
    have r_l_won : Room 1 _ := hr.mono (by decide)
    have r_told : Room 4 _ := hr.mono (by decide)
    refine ⟨_, (pss_cons (ps_set (i := 2) scRight.nd rfl (Or.inl rfl) (pe_call G_l_won r_l_won (by rfl) g_l_won k_l_won b_l_won .nil pass0 (pa_cons (pv 0) (pa_cons (pv 1) pa_nil))))
      (pss_cons (ps_lock (ps_for PassesOwn.never rfl (pi_keys (pv 2)) (pg_tup (by rfl) (pgs_cons (pg_name (i := 3) scRight.nd rfl (Or.inl rfl)) (pgs_cons (pg_name (i := 4) scRight.nd rfl (Or.inl rfl)) pgs_nil)))
        (pss_cons (ps_set (i := 5) scRight.nd rfl (Or.inl rfl) (pe_call G_told r_told (by rfl) g_told k_told b_told .nil pass0 (pa_cons (pv 0) (pa_cons (pv 3) (pa_cons (pv 4) pa_nil)))))
        (pss_cons (ps_if (PW.pt (pw_or (pt_cmpR op_ne (pe_callB call_isi (by rfl) m_isinstance (by decide +kernel) (pa_cons (pv 5) (pa_cons (pe_glob (v := .ref CW) (by rfl) OW.mgC rfl) pa_nil))) (pe_dget (hu_of hr) (pv 2) (pe_tup (pa_cons (pv 3) (pa_cons (pv 4) pa_nil))) (fun _ _ => rfl)) (nomark _)) (pw_or1 (pt_cmpR op_eq (pe_callB call_isi (by rfl) m_isinstance (by decide +kernel) (pa_cons (pv 5) (pa_cons (pe_glob (v := .ref CW) (by rfl) OW.mgC rfl) pa_nil))) (pe_callB call_isi (by rfl) m_isinstance (by decide +kernel) (pa_cons (pv 5) (pa_cons (pe_glob (v := .ref CL) (by rfl) OL.mgC rfl) pa_nil))) (nomark _))))) pss_never pss_nil)
        (pss_one (ps_if (pt_val (pe_callB call_isi (by rfl) m_isinstance (by decide +kernel) (pa_cons (pv 5) (pa_cons (pe_glob (v := .ref CW) (by rfl) OW.mgC rfl) pa_nil)))) (pss_cons (ps_if (pt_not (pt_chain op_le op_le pe_int (pe_fld (pv 5) rfl) (pe_callB (call_min2 rfl) (by rfl) m_min (by decide +kernel) (pa_cons (pv 3) (pa_cons (pv 4) pa_nil))))) pss_never pss_nil)
            (pss_one (ps_if (pt_val (pe_dget (hu_of hr) (pv 2) (pe_tup (pa_cons (pe_op op_sub (pv 3) (pe_fld (pv 5) rfl)) (pa_cons (pe_callB (call_min2 rfl) (by rfl) m_min (by decide +kernel) (pa_cons (pv 1) (pa_cons (pe_op op_mul (pv 0) (pe_fld (pv 5) rfl)) pa_nil))) pa_nil))) (fun _ _ => rfl))) pss_never pss_nil))) pss_nil))))))
      (pss_one (ps_ret pe_bl)))), ?_⟩
    have small2 : (2 : Nat) ≤ sizeLine := by decide
    have bd : ∀ {x : Int}, x ≤ 30 → x < Bd := fun hx => Int.lt_of_le_of_lt hx (by decide +kernel)
    refine ⟨_, rfl, _, rfl, f, m, rfl, h1, h30, m0, m30, fun d H1 kvs s1 nd hd T => ?_⟩
    refine ⟨d, .dT kvs, hd, trivial, fun od => ?_⟩
    have sL : Same H (upd H1 d (.frz od (.dT kvs))) := same_new s1 nd
    have hdL : (upd H1 d (.frz od (.dT kvs))) d = some (.frz od (.dT kvs)) := upd_same
    refine ⟨_, rfl, d, od, rfl, .inr ⟨kvs, upd_same, ?_⟩⟩
    generalize upd H1 d (.frz od (.dT kvs)) = HL at sL hdL
    refine for_it walk_keysT (fun i σ H' => ∃ v3 v4 v5, σ = [some (.int f), some (.int m), some (.ref d), v3, v4, v5] ∧ Same HL H') ⟨none, none, none, rfl, Same.refl HL⟩ (fun i σ H' _ ⟨_, _, _, _, s⟩ => s _ _ hdL) ?_ ?_
    · rintro i x σ H2 H2' hi ⟨v3, v4, v5, rfl, s2⟩ ⟨rfl, k, v, qk, hk, rfl, hq⟩
      obtain ⟨h, l, ek, h0, hm, l0, lm⟩ := T.mem (k, v) (List.mem_of_getElem? hk)
      have ek' : k = ky h l := ek
      subst ek'
      have hq' : H2' qk = some (.tup [.int h, .int l]) := hq
      refine ⟨qk, _, rfl, SqT.of hq', rfl, _, _, rfl, _, _, rfl, rfl, ?_⟩
      have getW : ∀ {H' : Hp} {b : Addr} {x y : Int}, Same HL H' → 0 ≤ x → x ≤ m → 0 ≤ y → y ≤ m → H' b = some (.tup [.int x, .int y]) → DGet H' d (.ref b) (some (.bl (W f x y))) := fun {H' b x y} s x0 xm y0 ym hb =>
        .inr ⟨kvs, ky x y, b, .inr ⟨od, s _ _ hdL⟩, rfl, hb, (T.val x y x0 y0 ym (.inl (by omega))).symm⟩
      refine ⟨_, rfl, _, rfl, _, rfl, f, h, l, rfl, h1, h30, h0, bd (by omega), l0, fun c _ p dx a H3 s3 np na npa hp ha => ?_, fun m' t e tl p dx H3 s3 np hp => ?_⟩
      · -- lost
        have s3' := s2.trans s3
        refine ⟨_, rfl, .ref p, .ref CW, .ref CL, .ref CW, false, rfl, .own CW, II.tyL OL hp, II.kLW, _, rfl, _, rfl, _, rfl, small2, fun b nb => ?_⟩
        have s4 := s3'.trans (same_upd (o := .tup [.int h, .int l]) nb)
        have hp4 : (upd H3 b (.tup [.int h, .int l])) p = some (.ins CL dx (lostF a)) := by rw [upd_ne (ne_of_none hp nb)]; exact hp
        have g4 := getW s4 h0 hm l0 lm upd_same
        have ew : W f h l = false := by unfold W; rw [c]; rfl
        rw [ew] at g4
        refine ⟨d, _, rfl, g4, rfl, _, rfl, iteNS rfl ?_⟩
        generalize upd H3 b (.tup [.int h, .int l]) = H4 at s4 hp4
        refine ⟨_, rfl, .ref p, .ref CW, .ref CL, .ref CW, false, rfl, .own CW, II.tyL OL hp4, II.kLW, _, rfl, .ref p, .ref CL, .ref CL, .ref CL, true, rfl, .own CL, II.tyL OL hp4, II.kLL, rfl, _, rfl, ?_⟩
        rw [ft]
        refine iteF ?_
        refine ⟨_, rfl, .ref p, .ref CW, .ref CL, .ref CW, false, rfl, .own CW, II.tyL OL hp4, II.kLW, _, rfl, iteF ?_⟩
        exact ⟨_, _, _, rfl, s4⟩
      · -- won
        have s3' := s2.trans s3
        have ht := parts_mem h1 t (by rw [e]; simp)
        refine ⟨_, rfl, .ref p, .ref CW, .ref CW, .ref CW, true, rfl, .own CW, II.tyW OW hp, II.kWW, _, rfl, _, rfl, _, rfl, small2, fun b nb => ?_⟩
        have s4 := s3'.trans (same_upd (o := .tup [.int h, .int l]) nb)
        have hp4 : (upd H3 b (.tup [.int h, .int l])) p = some (.ins CW dx (wonF t)) := by rw [upd_ne (ne_of_none hp nb)]; exact hp
        have g4 := getW s4 h0 hm l0 lm upd_same
        have ew : W f h l = true := by
          unfold W
          rw [e, lostB_snoc, decide_eq_false (show ¬ l < t by omega)]
          rfl
        rw [ew] at g4
        refine ⟨d, _, rfl, g4, rfl, _, rfl, iteNS rfl ?_⟩
        generalize upd H3 b (.tup [.int h, .int l]) = H4 at s4 hp4
        refine ⟨_, rfl, .ref p, .ref CW, .ref CW, .ref CW, true, rfl, .own CW, II.tyW OW hp4, II.kWW, _, rfl, .ref p, .ref CL, .ref CW, .ref CL, false, rfl, .own CL, II.tyW OW hp4, II.kWL, rfl, _, rfl, ?_⟩
        rw [tf]
        refine iteF ?_
        refine ⟨_, rfl, .ref p, .ref CW, .ref CW, .ref CW, true, rfl, .own CW, II.tyW OW hp4, II.kWW, _, rfl, iteT ?_⟩
        refine ⟨_, rfl, p, CW, dx, _, _, rfl, hp4, OW.cl, OW.nF, rfl, 1, t, rfl, rfl, _, rfl, ?_⟩
        rw [decide_eq_true ht.1]
        refine iteT ⟨.int h, rfl, .int l, rfl, h, l, rfl, t, _, rfl, rfl, _, rfl, ?_⟩
        rw [min2, decide_eq_true (show t ≤ min h l by omega)]
        refine iteF ?_
        refine ⟨_, rfl, _, rfl, _, rfl, p, CW, dx, _, _, rfl, hp4, OW.cl, OW.nF, rfl, h, t, rfl, rfl, _, rfl, _, rfl, _, rfl, p, CW, dx, _, _, rfl, hp4, OW.cl, OW.nF, rfl, f, t, rfl, rfl, .inl (f_small h1 h30), m, f * t, rfl, ?_⟩
        rw [min2]
        refine ⟨small2, fun b5 nb5 => ?_⟩
        have s5 := s4.trans (same_upd (o := .tup [.int (h - t), .int (min m (f * t))]) nb5)
        have fp : 0 ≤ f * t := Int.mul_nonneg (by omega) (by omega)
        have g5 := getW s5 (show 0 ≤ h - t by omega) (by omega) (show 0 ≤ min m (f * t) by omega) (by omega) upd_same
        rw [W_min h1 (show h - t ≤ m by omega), won_rest h1 h0 e] at g5
        refine ⟨d, _, rfl, g5, _, rfl, iteF ?_⟩
        exact ⟨_, _, _, rfl, s5⟩
    · rintro σ H2 ⟨v3, v4, v5, rfl, s2⟩
      refine ⟨s2 _ _ hdL, ?_⟩
      exact q _ (same_new (sL.trans s2) nd)
/-! ### the law -/
def spLaw (K : PySem.W.Frag) : Sp := fun vs H Q _ => ∃ (a : Addr) (ns : List Int), vs = [.ref a] ∧ SqL K H a (ns.map V.int) ∧ (∀ z ∈ ns, Bits z) ∧ ∀ H', Q (.bl true) H'
abbrev nLaw : List Str := ["_law_script", "_law_cell"]
theorem scLaw : FnScope nLaw ["_law_script"] (defScope sLaw) := ⟨rfl, rfl, rfl, by decide +kernel, rfl, by decide +kernel, by decide +kernel⟩
theorem ok_law {f : Addr} {fd : FuncData} (F : Fun K "law" "law" sLaw f fd)
    (D_l_cell_at : Df P w K mg base "_law_cell_at" 1 ["_law_script", "_law_k"] (spCellAt K))
    (D_l_draw : Df P w K mg base "_law_draw" 1 ["_law_cell", "_law_k", "_law_many"] spDraw)
    (D_l_right : Df P w K mg base "_law_right" 5 ["_law_factor", "_law_most"] spRight) :
    FnOk P w K mg base CX0 6 f fd ["_law_script"] (spLaw K) := by
  refine F.ok scLaw (fun vs H Q E h => ?_) (fun cdv A outer s H vs Q E hr h => ?_)
  · obtain ⟨a, ns, rfl, _⟩ := h
    rfl
  · obtain ⟨a, ns, rfl, hS, hb, q⟩ := h
    obtain ⟨f_l_cell_at, fd_l_cell_at, G_l_cell_at, k_l_cell_at, b_l_cell_at, g_l_cell_at⟩ := D_l_cell_at
    obtain ⟨f_l_draw, fd_l_draw, G_l_draw, k_l_draw, b_l_draw, g_l_draw⟩ := D_l_draw
    obtain ⟨f_l_right, fd_l_right, G_l_right, k_l_right, b_l_right, g_l_right⟩ := D_l_right
    have r_l_cell_at : Room 1 _ := hr.mono (by decide)
    have r_l_draw : Room 1 _ := hr.mono (by decide)
    have r_l_right : Room 5 _ := hr.mono (by decide)
    refine ⟨_, (pss_cons (ps_set (i := 1) scLaw.nd rfl (Or.inl rfl) (pe_op op_mod (pe_call G_l_cell_at r_l_cell_at (by rfl) g_l_cell_at k_l_cell_at b_l_cell_at .nil pass0 (pa_cons (pv 0) (pa_cons pe_int pa_nil))) (pe_op op_pow pe_int pe_int)))
      (pss_cons (ps_if (pt_not (pt_val (pe_call G_l_right r_l_right (by rfl) g_l_right k_l_right b_l_right .nil pass0 (pa_cons (pe_op op_add pe_int (pe_call G_l_draw r_l_draw (by rfl) g_l_draw k_l_draw b_l_draw .nil pass0 (pa_cons (pv 1) (pa_cons pe_int (pa_cons pe_int pa_nil))))) (pa_cons (pe_op op_add pe_int (pe_call G_l_draw r_l_draw (by rfl) g_l_draw k_l_draw b_l_draw .nil pass0 (pa_cons (pv 1) (pa_cons pe_int (pa_cons pe_int pa_nil))))) pa_nil))))) pss_never pss_nil)
      (pss_one (ps_ret (pe_and (pe_call G_l_right r_l_right (by rfl) g_l_right k_l_right b_l_right .nil pass0 (pa_cons pe_int (pa_cons pe_int pa_nil))) (pe_one (pe_call G_l_right r_l_right (by rfl) g_l_right k_l_right b_l_right .nil pass0 (pa_cons (pe_op op_add pe_int (pe_call G_l_draw r_l_draw (by rfl) g_l_draw k_l_draw b_l_draw .nil pass0 (pa_cons (pv 1) (pa_cons pe_int (pa_cons pe_int pa_nil))))) (pa_cons pe_int pa_nil))))))))), ?_⟩
    have P18 : (0 : Int) ≤ 18 ∧ (18 : Int) ≤ 1000000 ∧ (10 : Int).natAbs < 2 ^ 64 := by decide
    refine ⟨_, rfl, a, ns, 0, rfl, hS, by decide, fun c hc => ?_⟩
    refine ⟨10, 18, rfl, rfl, P18, _, _, rfl, rfl, (by show (0 : Int) < 10 ^ 18; decide), ?_⟩
    refine ⟨_, rfl, _, 4, 30, rfl, by decide, fun x H1 x0 x1 s1 => ?_⟩
    refine ⟨1, x, rfl, rfl, _, rfl, _, 5, 9, rfl, by decide, fun y H2 y0 y1 s2 => ?_⟩
    refine ⟨12, y, rfl, rfl, 1 + x, 12 + y, rfl, by omega, by omega, by omega, by omega, fun H3 s3 => ⟨_, rfl, iteF ?_⟩⟩
    refine ⟨2, 18, rfl, by decide, by decide, by decide, by decide, fun H4 s4 => ⟨_, rfl, iteT ?_⟩⟩
    refine ⟨_, rfl, _, 6, 4, rfl, by decide, fun z H5 z0 z1 s5 => ?_⟩
    exact ⟨1, z, rfl, rfl, 1 + z, 22, rfl, by omega, by omega, by decide, by decide, fun H6 s6 => q _⟩
end
end TA
set_option Elab.async false
set_option linter.all false
set_option maxRecDepth 100000
set_option maxHeartbeats 4000000
namespace TA
open PySem PySem.Spec PyProof.Rows L2
/-! ### what the top has left -/
theorem all_mk {l : PySem.W.OpenLaw} {w : World} {K : PySem.W.Frag} {h : Heap} {mg : Str → Option Value} {fa f1 f2 f3 f4 f5 f6 f7 f8 f9 f10 f11 f12 f13 f14 f15 f16 f17 : Addr} (X : K.In h) (G : h.Ns mainGlobals mg) (hfa : mg "law" = some (.ref fa))
    {od1 od2 od3 od4 od5 od6 od7 od8 od9 od10 od11 od12 od13 od14 od15 od16 od17 an1 an2 an3 an4 an5 an6 an7 an8 an9 an10 an11 an12 an13 an14 an15 an16 an17 : Option Addr} {sl1 sl2 sl3 sl4 sl5 sl6 sl7 sl8 sl9 sl10 sl11 sl12 sl13 sl14 sl15 sl16 sl17 : Array (Option Value)} {oc1 kV1 dc1 pm1 cd1 ct1 oc2 kV2 dc2 pm2 cd2 ct2 oc3 kV3 dc3 pm3 cd3 ct3 oc4 kV4 dc4 pm4 cd4 ct4 oc5 kV5 dc5 pm5 cd5 ct5 oc6 kV6 dc6 pm6 cd6 ct6 oc7 kV7 dc7 pm7 cd7 ct7 oc8 kV8 dc8 pm8 cd8 ct8 oc9 kV9 dc9 pm9 cd9 ct9 oc10 kV10 dc10 pm10 cd10 ct10 oc11 kV11 dc11 pm11 cd11 ct11 oc12 kV12 dc12 pm12 cd12 ct12 oc13 kV13 dc13 pm13 cd13 ct13 oc14 kV14 dc14 pm14 cd14 ct14 oc15 kV15 dc15 pm15 cd15 ct15 oc16 kV16 dc16 pm16 cd16 ct16 oc17 kV17 dc17 pm17 cd17 ct17 : Value}
    (a1 : PySem.W.nsIn K mainGlobals "is_whole" = some (some (.ref f1))) (l1 : K.lookup f1 = some ⟨oc1, od1, .func (PySem.W.fnOf "is_whole" "is_whole" (defArgs sIsWhole) (defBody sIsWhole) (defScope sIsWhole) .none kV1 dc1 pm1 an1 cd1 ct1), sl1⟩) (c1 : PySem.W.codeIn K cd1 "is_whole" = true) (k1 : PySem.W.keepIn K (.ref f1) = true)
    (a2 : PySem.W.nsIn K mainGlobals "check_factor" = some (some (.ref f2))) (l2 : K.lookup f2 = some ⟨oc2, od2, .func (PySem.W.fnOf "check_factor" "check_factor" (defArgs sCkFactor) (defBody sCkFactor) (defScope sCkFactor) .none kV2 dc2 pm2 an2 cd2 ct2), sl2⟩) (c2 : PySem.W.codeIn K cd2 "check_factor" = true) (k2 : PySem.W.keepIn K (.ref f2) = true)
    (a3 : PySem.W.nsIn K mainGlobals "check_heap" = some (some (.ref f3))) (l3 : K.lookup f3 = some ⟨oc3, od3, .func (PySem.W.fnOf "check_heap" "check_heap" (defArgs sCkHeap) (defBody sCkHeap) (defScope sCkHeap) .none kV3 dc3 pm3 an3 cd3 ct3), sl3⟩) (c3 : PySem.W.codeIn K cd3 "check_heap" = true) (k3 : PySem.W.keepIn K (.ref f3) = true)
    (a4 : PySem.W.nsIn K mainGlobals "sum_of" = some (some (.ref f4))) (l4 : K.lookup f4 = some ⟨oc4, od4, .func (PySem.W.fnOf "sum_of" "sum_of" (defArgs sSumOf) (defBody sSumOf) (defScope sSumOf) .none kV4 dc4 pm4 an4 cd4 ct4), sl4⟩) (c4 : PySem.W.codeIn K cd4 "sum_of" = true) (k4 : PySem.W.keepIn K (.ref f4) = true)
    (a5 : PySem.W.nsIn K mainGlobals "add_step" = some (some (.ref f5))) (l5 : K.lookup f5 = some ⟨oc5, od5, .func (PySem.W.fnOf "add_step" "add_step" (defArgs sAddStep) (defBody sAddStep) (defScope sAddStep) .none kV5 dc5 pm5 an5 cd5 ct5), sl5⟩) (c5 : PySem.W.codeIn K cd5 "add_step" = true) (k5 : PySem.W.keepIn K (.ref f5) = true)
    (a6 : PySem.W.nsIn K mainGlobals "row_past" = some (some (.ref f6))) (l6 : K.lookup f6 = some ⟨oc6, od6, .func (PySem.W.fnOf "row_past" "row_past" (defArgs sRowPast) (defBody sRowPast) (defScope sRowPast) .none kV6 dc6 pm6 an6 cd6 ct6), sl6⟩) (c6 : PySem.W.codeIn K cd6 "row_past" = true) (k6 : PySem.W.keepIn K (.ref f6) = true)
    (l7 : K.lookup f7 = some ⟨oc7, od7, .func (PySem.W.fnOf "__init__" "Lost.__init__" (defArgs sLostInit) (defBody sLostInit) (defScope sLostInit) .none kV7 dc7 pm7 an7 cd7 ct7), sl7⟩) (c7 : PySem.W.codeIn K cd7 "Lost.__init__" = true) (k7 : PySem.W.keepIn K (.ref f7) = true)
    (l8 : K.lookup f8 = some ⟨oc8, od8, .func (PySem.W.fnOf "__init__" "Won.__init__" (defArgs sWonInit) (defBody sWonInit) (defScope sWonInit) .none kV8 dc8 pm8 an8 cd8 ct8), sl8⟩) (c8 : PySem.W.codeIn K cd8 "Won.__init__" = true) (k8 : PySem.W.keepIn K (.ref f8) = true)
    (a9 : PySem.W.nsIn K mainGlobals "is_lost" = some (some (.ref f9))) (l9 : K.lookup f9 = some ⟨oc9, od9, .func (PySem.W.fnOf "is_lost" "is_lost" (defArgs sIsLost) (defBody sIsLost) (defScope sIsLost) .none kV9 dc9 pm9 an9 cd9 ct9), sl9⟩) (c9 : PySem.W.codeIn K cd9 "is_lost" = true) (k9 : PySem.W.keepIn K (.ref f9) = true)
    (a10 : PySem.W.nsIn K mainGlobals "told" = some (some (.ref f10))) (l10 : K.lookup f10 = some ⟨oc10, od10, .func (PySem.W.fnOf "told" "told" (defArgs sTold) (defBody sTold) (defScope sTold) .none kV10 dc10 pm10 an10 cd10 ct10), sl10⟩) (c10 : PySem.W.codeIn K cd10 "told" = true) (k10 : PySem.W.keepIn K (.ref f10) = true)
    (a11 : PySem.W.nsIn K mainGlobals "check_turn" = some (some (.ref f11))) (l11 : K.lookup f11 = some ⟨oc11, od11, .func (PySem.W.fnOf "check_turn" "check_turn" (defArgs sCkTurn) (defBody sCkTurn) (defScope sCkTurn) .none kV11 dc11 pm11 an11 cd11 ct11), sl11⟩) (c11 : PySem.W.codeIn K cd11 "check_turn" = true) (k11 : PySem.W.keepIn K (.ref f11) = true)
    (a12 : PySem.W.nsIn K mainGlobals "check_limit" = some (some (.ref f12))) (l12 : K.lookup f12 = some ⟨oc12, od12, .func (PySem.W.fnOf "check_limit" "check_limit" (defArgs sCkLimit) (defBody sCkLimit) (defScope sCkLimit) .none kV12 dc12 pm12 an12 cd12 ct12), sl12⟩) (c12 : PySem.W.codeIn K cd12 "check_limit" = true) (k12 : PySem.W.keepIn K (.ref f12) = true)
    (a13 : PySem.W.nsIn K mainGlobals "_law_cell_at" = some (some (.ref f13))) (l13 : K.lookup f13 = some ⟨oc13, od13, .func (PySem.W.fnOf "_law_cell_at" "_law_cell_at" (defArgs sCellAt) (defBody sCellAt) (defScope sCellAt) .none kV13 dc13 pm13 an13 cd13 ct13), sl13⟩) (c13 : PySem.W.codeIn K cd13 "_law_cell_at" = true) (k13 : PySem.W.keepIn K (.ref f13) = true)
    (a14 : PySem.W.nsIn K mainGlobals "_law_draw" = some (some (.ref f14))) (l14 : K.lookup f14 = some ⟨oc14, od14, .func (PySem.W.fnOf "_law_draw" "_law_draw" (defArgs sDraw) (defBody sDraw) (defScope sDraw) .none kV14 dc14 pm14 an14 cd14 ct14), sl14⟩) (c14 : PySem.W.codeIn K cd14 "_law_draw" = true) (k14 : PySem.W.keepIn K (.ref f14) = true)
    (a15 : PySem.W.nsIn K mainGlobals "_law_won" = some (some (.ref f15))) (l15 : K.lookup f15 = some ⟨oc15, od15, .func (PySem.W.fnOf "_law_won" "_law_won" (defArgs sLawWon) (defBody sLawWon) (defScope sLawWon) .none kV15 dc15 pm15 an15 cd15 ct15), sl15⟩) (c15 : PySem.W.codeIn K cd15 "_law_won" = true) (k15 : PySem.W.keepIn K (.ref f15) = true)
    (a16 : PySem.W.nsIn K mainGlobals "_law_right" = some (some (.ref f16))) (l16 : K.lookup f16 = some ⟨oc16, od16, .func (PySem.W.fnOf "_law_right" "_law_right" (defArgs sRight) (defBody sRight) (defScope sRight) .none kV16 dc16 pm16 an16 cd16 ct16), sl16⟩) (c16 : PySem.W.codeIn K cd16 "_law_right" = true) (k16 : PySem.W.keepIn K (.ref f16) = true)
    (a17 : PySem.W.nsIn K mainGlobals "law" = some (some (.ref f17))) (l17 : K.lookup f17 = some ⟨oc17, od17, .func (PySem.W.fnOf "law" "law" (defArgs sLaw) (defBody sLaw) (defScope sLaw) .none kV17 dc17 pm17 an17 cd17 ct17), sl17⟩) (c17 : PySem.W.codeIn K cd17 "law" = true) (k17 : PySem.W.keepIn K (.ref f17) = true)
    (z_type : PySem.W.nsIn K mainGlobals "type" = some none)
    (z_int : PySem.W.nsIn K mainGlobals "int" = some none)
    (z_list : PySem.W.nsIn K mainGlobals "list" = some none)
    (z_range : PySem.W.nsIn K mainGlobals "range" = some none)
    (z_reversed : PySem.W.nsIn K mainGlobals "reversed" = some none)
    (z_len : PySem.W.nsIn K mainGlobals "len" = some none)
    (z_isinstance : PySem.W.nsIn K mainGlobals "isinstance" = some none)
    (z_min : PySem.W.nsIn K mainGlobals "min" = some none)
    {t_GREATEST_FACTOR : Tok} (y_GREATEST_FACTOR : PySem.W.nsIn K mainGlobals "GREATEST_FACTOR" = some (some (.int 30 t_GREATEST_FACTOR)))
    {CL : Addr} (aCL : PySem.W.nsIn K mainGlobals "Lost" = some (some (.ref CL))) (mIL : PySem.W.findIn K (.ref CL) "__init__" = some (some (.ref f7))) (iIL : PySem.W.isFn K (.ref f7) = true) (mkL : PySem.W.makesIn K CL = true) (nFL : PySem.W.findIn K (.ref CL) "parts" = some none) (pgL : PySem.W.plainGet K CL Str.empty = true) (hdL : PySem.W.hasDictIn K CL = true) (poL : PySem.W.plainOver K CL = true) (saL : PySem.W.findIn K (.ref CL) "__setattr__" = some (some (.builtin "object.__setattr__"))) (kcL : PySem.W.keepIn K (.ref CL) = true) (haL : PySem.W.findIn K (.ref CL) "__class__" = some (some (.builtin "object.__class__"))) (hmL : PySem.W.mroIn K CL (.type "object") = some true)
    {CW : Addr} (aCW : PySem.W.nsIn K mainGlobals "Won" = some (some (.ref CW))) (mIW : PySem.W.findIn K (.ref CW) "__init__" = some (some (.ref f8))) (iIW : PySem.W.isFn K (.ref f8) = true) (mkW : PySem.W.makesIn K CW = true) (nFW : PySem.W.findIn K (.ref CW) "taking" = some none) (pgW : PySem.W.plainGet K CW Str.empty = true) (hdW : PySem.W.hasDictIn K CW = true) (poW : PySem.W.plainOver K CW = true) (saW : PySem.W.findIn K (.ref CW) "__setattr__" = some (some (.builtin "object.__setattr__"))) (kcW : PySem.W.keepIn K (.ref CW) = true) (haW : PySem.W.findIn K (.ref CW) "__class__" = some (some (.builtin "object.__class__"))) (hmW : PySem.W.mroIn K CW (.type "object") = some true)
    (hn0 : PySem.W.specialIn K (.builtin "object.__class__") "__get__" = some (some (.builtin "getset_descriptor.__get__"))) (htk0 : PySem.W.takesIn K (.builtin "object.__class__") = some true) (kLL : PySem.W.kitOne K (.ref CL) (.ref CL) = some true) (kLW : PySem.W.kitOne K (.ref CL) (.ref CW) = some false) (kWL : PySem.W.kitOne K (.ref CW) (.ref CL) = some false) (kWW : PySem.W.kitOne K (.ref CW) (.ref CW) = some true)
    : ∃ fd : FuncData, (∀ (s : Shared) (v : Value), BindsTo s fd ⟨[v], []⟩ [("_law_script", v)]) ∧ ∀ base : Heap, K.In base → base.Ns mainGlobals mg → FnOk l.prog w K mg base CX0 6 fa fd ["_law_script"] (spLaw K) := by
  have e := hfa.symm.trans (PySem.W.mg_of X G a17)
  cases e
  have F_is_whole := fun_mk (st := sIsWhole) l1 c1 k1
  have b_is_whole := F_is_whole.binds (ps := ["value", "least"]) fun _ _ _ _ _ _ us hl => match us, hl with | [_, _], _ => rfl
  have g_is_whole := PySem.W.mg_of X G a1
  have F_check_factor := fun_mk (st := sCkFactor) l2 c2 k2
  have b_check_factor := F_check_factor.binds (ps := ["factor"]) fun _ _ _ _ _ _ us hl => match us, hl with | [_], _ => rfl
  have g_check_factor := PySem.W.mg_of X G a2
  have F_check_heap := fun_mk (st := sCkHeap) l3 c3 k3
  have b_check_heap := F_check_heap.binds (ps := ["heap"]) fun _ _ _ _ _ _ us hl => match us, hl with | [_], _ => rfl
  have g_check_heap := PySem.W.mg_of X G a3
  have F_sum_of := fun_mk (st := sSumOf) l4 c4 k4
  have b_sum_of := F_sum_of.binds (ps := ["factor", "heap"]) fun _ _ _ _ _ _ us hl => match us, hl with | [_, _], _ => rfl
  have g_sum_of := PySem.W.mg_of X G a4
  have F_add_step := fun_mk (st := sAddStep) l5 c5 k5
  have b_add_step := F_add_step.binds (ps := ["factor", "row", "place"]) fun _ _ _ _ _ _ us hl => match us, hl with | [_, _, _], _ => rfl
  have g_add_step := PySem.W.mg_of X G a5
  have F_row_past := fun_mk (st := sRowPast) l6 c6 k6
  have b_row_past := F_row_past.binds (ps := ["factor", "heap"]) fun _ _ _ _ _ _ us hl => match us, hl with | [_, _], _ => rfl
  have g_row_past := PySem.W.mg_of X G a6
  have F_Lost___init__ := fun_mk (st := sLostInit) l7 c7 k7
  have b_Lost___init__ := F_Lost___init__.binds (ps := ["self", "parts"]) fun _ _ _ _ _ _ us hl => match us, hl with | [_, _], _ => rfl
  have F_Won___init__ := fun_mk (st := sWonInit) l8 c8 k8
  have b_Won___init__ := F_Won___init__.binds (ps := ["self", "taking"]) fun _ _ _ _ _ _ us hl => match us, hl with | [_, _], _ => rfl
  have F_is_lost := fun_mk (st := sIsLost) l9 c9 k9
  have b_is_lost := F_is_lost.binds (ps := ["parts", "limit"]) fun _ _ _ _ _ _ us hl => match us, hl with | [_, _], _ => rfl
  have g_is_lost := PySem.W.mg_of X G a9
  have F_told := fun_mk (st := sTold) l10 c10 k10
  have b_told := F_told.binds (ps := ["factor", "heap", "limit"]) fun _ _ _ _ _ _ us hl => match us, hl with | [_, _, _], _ => rfl
  have g_told := PySem.W.mg_of X G a10
  have F_check_turn := fun_mk (st := sCkTurn) l11 c11 k11
  have b_check_turn := F_check_turn.binds (ps := ["factor", "heap", "limit"]) fun _ _ _ _ _ _ us hl => match us, hl with | [_, _, _], _ => rfl
  have g_check_turn := PySem.W.mg_of X G a11
  have F_check_limit := fun_mk (st := sCkLimit) l12 c12 k12
  have b_check_limit := F_check_limit.binds (ps := ["limit"]) fun _ _ _ _ _ _ us hl => match us, hl with | [_], _ => rfl
  have g_check_limit := PySem.W.mg_of X G a12
  have F_l_cell_at := fun_mk (st := sCellAt) l13 c13 k13
  have b_l_cell_at := F_l_cell_at.binds (ps := ["_law_script", "_law_k"]) fun _ _ _ _ _ _ us hl => match us, hl with | [_, _], _ => rfl
  have g_l_cell_at := PySem.W.mg_of X G a13
  have F_l_draw := fun_mk (st := sDraw) l14 c14 k14
  have b_l_draw := F_l_draw.binds (ps := ["_law_cell", "_law_k", "_law_many"]) fun _ _ _ _ _ _ us hl => match us, hl with | [_, _, _], _ => rfl
  have g_l_draw := PySem.W.mg_of X G a14
  have F_l_won := fun_mk (st := sLawWon) l15 c15 k15
  have b_l_won := F_l_won.binds (ps := ["_law_factor", "_law_most"]) fun _ _ _ _ _ _ us hl => match us, hl with | [_, _], _ => rfl
  have g_l_won := PySem.W.mg_of X G a15
  have F_l_right := fun_mk (st := sRight) l16 c16 k16
  have b_l_right := F_l_right.binds (ps := ["_law_factor", "_law_most"]) fun _ _ _ _ _ _ us hl => match us, hl with | [_, _], _ => rfl
  have g_l_right := PySem.W.mg_of X G a16
  have F_law := fun_mk (st := sLaw) l17 c17 k17
  have m_type := PySem.W.mg_none_of X G z_type
  have m_int := PySem.W.mg_none_of X G z_int
  have m_list := PySem.W.mg_none_of X G z_list
  have m_range := PySem.W.mg_none_of X G z_range
  have m_reversed := PySem.W.mg_none_of X G z_reversed
  have m_len := PySem.W.mg_none_of X G z_len
  have m_isinstance := PySem.W.mg_none_of X G z_isinstance
  have m_min := PySem.W.mg_none_of X G z_min
  have y_GREATEST_FACTOR := PySem.W.mg_of X G y_GREATEST_FACTOR
  refine ⟨(PySem.W.fnOf "law" "law" (defArgs sLaw) (defBody sLaw) (defScope sLaw) .none kV17 dc17 pm17 an17 cd17 ct17), fun s v => .of_eq rfl, fun base _ _ => ?_⟩
  have OL : One K mg "Lost" "parts" CL f7 := ⟨⟨pgL, hdL, poL, saL⟩, nFL, PySem.W.mg_of X G aCL, ⟨mkL, mIL, iIL, kcL⟩⟩
  have OW : One K mg "Won" "taking" CW f8 := ⟨⟨pgW, hdW, poW, saW⟩, nFW, PySem.W.mg_of X G aCW, ⟨mkW, mIW, iIW, kcW⟩⟩
  have II : IsF K CL CW := ⟨haL, hmL, haW, hmW, hn0, htk0, kLL, kLW, kWL, kWW⟩
  have G_ckf : FnOk l.prog w K mg base CX0 2 _ _ ["factor"] spCkFactor := ok_ck_factor F_check_factor F_is_whole b_is_whole g_is_whole y_GREATEST_FACTOR m_type m_int
  have G_ckh : FnOk l.prog w K mg base CX0 2 _ _ ["heap"] spCkHeap := ok_ck_heap F_check_heap F_is_whole b_is_whole g_is_whole m_type m_int
  have G_ckl : FnOk l.prog w K mg base CX0 2 _ _ ["limit"] spCkHeap := ok_ck_limit F_check_limit F_is_whole b_is_whole g_is_whole m_type m_int
  have G_ckt : FnOk l.prog w K mg base CX0 3 _ _ ["factor", "heap", "limit"] spCkTurn := ok_ck_turn F_check_turn G_ckf F_check_factor.kp b_check_factor g_check_factor G_ckh F_check_heap.kp b_check_heap g_check_heap G_ckl F_check_limit.kp b_check_limit g_check_limit
  have G_row : FnOk l.prog w K mg base CX0 2 _ _ ["factor", "heap"] spRowPast := ok_row_past F_row_past F_add_step b_add_step g_add_step
  have G_sum_of : FnOk l.prog w K mg base CX0 3 _ _ ["factor", "heap"] spSumOf := ok_sum_of F_sum_of G_row F_row_past.kp b_row_past g_row_past G_ckf F_check_factor.kp b_check_factor g_check_factor G_ckh F_check_heap.kp b_check_heap g_check_heap m_reversed
  have G_is_lost : FnOk l.prog w K mg base CX0 1 _ _ ["parts", "limit"] (spIsLost K) := ok_is_lost F_is_lost
  have GIL : FnOk l.prog w K mg base CX0 1 _ _ ["self", "parts"] (spLostInit K CL) := ok_lost_init F_Lost___init__ OL m_list
  have GIW : FnOk l.prog w K mg base CX0 1 _ _ ["self", "taking"] (spWonInit CW) := ok_won_init F_Won___init__ OW
  have G_told : FnOk l.prog w K mg base CX0 4 _ _ ["factor", "heap", "limit"] (spTold CL CW) := ok_told F_told OL GIL b_Lost___init__ OW GIW b_Won___init__ G_ckt F_check_turn.kp b_check_turn g_check_turn G_sum_of F_sum_of.kp b_sum_of g_sum_of G_is_lost F_is_lost.kp b_is_lost g_is_lost
  have G_cell_at : FnOk l.prog w K mg base CX0 1 _ _ ["_law_script", "_law_k"] (spCellAt K) := ok_cell_at F_l_cell_at m_len
  have G_draw : FnOk l.prog w K mg base CX0 1 _ _ ["_law_cell", "_law_k", "_law_many"] spDraw := ok_draw F_l_draw
  have G_won : FnOk l.prog w K mg base CX0 1 _ _ ["_law_factor", "_law_most"] spWon := ok_won F_l_won m_range m_min
  have G_right : FnOk l.prog w K mg base CX0 5 _ _ ["_law_factor", "_law_most"] spRight := ok_right F_l_right OL OW II ⟨_, _, G_won, F_l_won.kp, b_l_won, g_l_won⟩ ⟨_, _, G_told, F_told.kp, b_told, g_told⟩ m_isinstance m_min
  exact ok_law F_law ⟨_, _, G_cell_at, F_l_cell_at.kp, b_l_cell_at, g_l_cell_at⟩ ⟨_, _, G_draw, F_l_draw.kp, b_l_draw, g_l_draw⟩ ⟨_, _, G_right, F_l_right.kp, b_l_right, g_l_right⟩
end TA
open PySem PySem.W PyProof.Rows
set_option maxRecDepth 100000 in
set_option maxHeartbeats 0 in
theorem PySem.Challenge.cw_takeagain_k03_tried_holds : PySem.Challenge.rw_takeagain_k03_tried.Holds := by
  w_on; o_law; k_head; (case hw => w_witness2)
  k_fill
  refine L2.walk_ofB (l := PySem.Challenge.rw_takeagain_k03_tried) (n := 63) (k := 6) (x := "_law_script") (CX := fun _ => L2.CX0) (sp := fun w => TA.spLaw _) rfl (by decide) rfl ⟨rfl, by decide, by decide⟩ (fun w h Y => PySem.W.kIn_of Y) ?F (fun _ _ a ns hl hb _ hS => ⟨a, ns, rfl, hS, hb, fun _ => rfl⟩) (fun _ _ _ _ _ h => h)
  case F =>
    intro w mg fa h KX G hmg
    refine' TA.all_mk KX G hmg ?a1 ?l1 ?c1 ?k1 ?a2 ?l2 ?c2 ?k2 ?a3 ?l3 ?c3 ?k3 ?a4 ?l4 ?c4 ?k4 ?a5 ?l5 ?c5 ?k5 ?a6 ?l6 ?c6 ?k6 ?l7 ?c7 ?k7 ?l8 ?c8 ?k8 ?a9 ?l9 ?c9 ?k9 ?a10 ?l10 ?c10 ?k10 ?a11 ?l11 ?c11 ?k11 ?a12 ?l12 ?c12 ?k12 ?a13 ?l13 ?c13 ?k13 ?a14 ?l14 ?c14 ?k14 ?a15 ?l15 ?c15 ?k15 ?a16 ?l16 ?c16 ?k16 ?a17 ?l17 ?c17 ?k17 ?z_type ?z_int ?z_list ?z_range ?z_reversed ?z_len ?z_isinstance ?z_min ?y_GREATEST_FACTOR ?aCL ?mIL ?iIL ?mkL ?nFL ?pgL ?hdL ?poL ?saL ?kcL ?haL ?hmL ?aCW ?mIW ?iIW ?mkW ?nFW ?pgW ?hdW ?poW ?saW ?kcW ?haW ?hmW ?hn0 ?htk0 ?kLL ?kLW ?kWL ?kWW
    (case aCL => k_is)
    (case mIL => k_is)
    (case iIL => k_is)
    (case mkL => k_is)
    (case nFL => k_is)
    (case pgL => k_is)
    (case hdL => k_is)
    (case poL => k_is)
    (case saL => k_is)
    (case kcL => k_is)
    (case haL => k_is)
    (case hmL => k_is)
    (case aCW => k_is)
    (case mIW => k_is)
    (case iIW => k_is)
    (case mkW => k_is)
    (case nFW => k_is)
    (case pgW => k_is)
    (case hdW => k_is)
    (case poW => k_is)
    (case saW => k_is)
    (case kcW => k_is)
    (case haW => k_is)
    (case hmW => k_is)
    (case hn0 => first | k_is | kernel_rfl)
    (case htk0 => first | k_is | kernel_rfl)
    (case kLL => kernel_rfl)
    (case kLW => kernel_rfl)
    (case kWL => kernel_rfl)
    (case kWW => kernel_rfl)
    (case a1 => k_is); (case l1 => k_is); (case c1 => k_is); (case k1 => k_is)
    (case a2 => k_is); (case l2 => k_is); (case c2 => k_is); (case k2 => k_is)
    (case a3 => k_is); (case l3 => k_is); (case c3 => k_is); (case k3 => k_is)
    (case a4 => k_is); (case l4 => k_is); (case c4 => k_is); (case k4 => k_is)
    (case a5 => k_is); (case l5 => k_is); (case c5 => k_is); (case k5 => k_is)
    (case a6 => k_is); (case l6 => k_is); (case c6 => k_is); (case k6 => k_is)
    (case l7 => k_is); (case c7 => k_is); (case k7 => k_is)
    (case l8 => k_is); (case c8 => k_is); (case k8 => k_is)
    (case a9 => k_is); (case l9 => k_is); (case c9 => k_is); (case k9 => k_is)
    (case a10 => k_is); (case l10 => k_is); (case c10 => k_is); (case k10 => k_is)
    (case a11 => k_is); (case l11 => k_is); (case c11 => k_is); (case k11 => k_is)
    (case a12 => k_is); (case l12 => k_is); (case c12 => k_is); (case k12 => k_is)
    (case a13 => k_is); (case l13 => k_is); (case c13 => k_is); (case k13 => k_is)
    (case a14 => k_is); (case l14 => k_is); (case c14 => k_is); (case k14 => k_is)
    (case a15 => k_is); (case l15 => k_is); (case c15 => k_is); (case k15 => k_is)
    (case a16 => k_is); (case l16 => k_is); (case c16 => k_is); (case k16 => k_is)
    (case a17 => k_is); (case l17 => k_is); (case c17 => k_is); (case k17 => k_is)
    (case z_type => k_is)
    (case z_int => k_is)
    (case z_list => k_is)
    (case z_range => k_is)
    (case z_reversed => k_is)
    (case z_len => k_is)
    (case z_isinstance => k_is)
    (case z_min => k_is)
    (case y_GREATEST_FACTOR => k_is)
