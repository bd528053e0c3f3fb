import PyProof.Rows.All
import Wide.All
import OpenK.AllK
import Wide.FinOn
import HandS.ForMost
import HandS.More
import HandS.IsInst
import HandS.Style
import HandS.Rev
import HandS.Wide
import HandS.EndBits
import HandS.Codes
import HandS.AnyAll
import HandS.EndTab
import KE.IntBitsLaws
import HandS.Flow
import HandS.EndOwn
import KE.KNestM
import PySem.Challenge.RW_takeagain_k01_whole_told
set_option maxHeartbeats 4000000
namespace TA
/-! ### the row of steps, reversed -/
def nxt (f : Int) (R : List Int) : Int := ((R.reverse).find? (fun y => decide (R.headD 1 ≤ f * y))).getD 0
def rowR (f : Int) : Nat → List Int
  | 0 => [1]
  | n + 1 => ((rowR f n).headD 1 + nxt f (rowR f n)) :: rowR f n
def st (f : Int) (n : Nat) : Int := (rowR f n).headD 1

theorem rowR_succ (f : Int) (n : Nat) : rowR f (n + 1) = (st f n + nxt f (rowR f n)) :: rowR f n := rfl
theorem st_succ (f : Int) (n : Nat) : st f (n + 1) = st f n + nxt f (rowR f n) := rfl
theorem rowR_len (f : Int) : ∀ n, (rowR f n).length = n + 1
  | 0 => rfl
  | n + 1 => by rw [rowR_succ, List.length_cons, rowR_len f n]
theorem rowR_cons (f : Int) (n : Nat) : ∃ t, rowR f n = st f n :: t := by
  cases n with
  | zero => exact ⟨[], rfl⟩
  | succ n => exact ⟨rowR f n, rfl⟩

theorem nxt_of_split {f : Int} {n : Nat} {a b : List Int} {x : Int} (e : rowR f n = a ++ x :: b) (hb : ∀ y ∈ b, f * y < st f n) (hx : st f n ≤ f * x) :
    nxt f (rowR f n) = x := by
  have hr : (rowR f n).reverse = b.reverse ++ x :: a.reverse := by
    rw [e]; simp
  unfold nxt
  rw [hr, List.find?_append]
  have h1 : b.reverse.find? (fun y => decide ((rowR f n).headD 1 ≤ f * y)) = none := by
    rw [List.find?_eq_none]
    intro y hy
    have := hb y (List.mem_reverse.mp hy)
    have e2 : (rowR f n).headD 1 = st f n := rfl
    rw [e2]
    simp only [decide_eq_true_eq]
    omega
  rw [h1]
  have e2 : (rowR f n).headD 1 = st f n := rfl
  rw [e2, List.find?_cons_of_pos (by simpa using hx)]
  rfl

/-- every row can be split at its next part -/
theorem split_at {f : Int} (hf : 1 ≤ f) (z : Int) (hz : 1 ≤ z) : ∀ (t : List Int), ∃ a x b, z :: t = a ++ x :: b ∧ (∀ y ∈ b, f * y < z) ∧ z ≤ f * x := by
  have hzz : z ≤ f * z := by
    have := Int.mul_le_mul_of_nonneg_right hf (show (0:Int) ≤ z by omega)
    omega
  -- scan by the length of what is dropped
  have key : ∀ (l : List Int), z ≤ f * l.headD z → l ≠ [] → ∃ a x b, l = a ++ x :: b ∧ (∀ y ∈ b, f * y < z) ∧ z ≤ f * x := by
    intro l
    induction l with
    | nil => intro _ h; exact absurd rfl h
    | cons y r ih =>
      intro h _
      by_cases hr : ∀ w ∈ r, f * w < z
      · exact ⟨[], y, r, rfl, hr, h⟩
      · -- drop to the first of r that is great enough
        have : ∃ w ∈ r, z ≤ f * w := by
          apply Classical.byContradiction
          intro hn
          apply hr
          intro w hw
          apply Classical.byContradiction
          intro hq
          exact hn ⟨w, hw, by omega⟩
        obtain ⟨w, hw, hwz⟩ := this
        clear ih hr
        -- induct over r
        have scan : ∀ (r : List Int), (∃ w ∈ r, z ≤ f * w) → ∃ a x b, r = a ++ x :: b ∧ (∀ y ∈ b, f * y < z) ∧ z ≤ f * x := by
          intro r
          induction r with
          | nil => rintro ⟨w, hw, _⟩; cases hw
          | cons v s ih =>
            rintro ⟨w, hw, hwz⟩
            by_cases hs : ∃ w ∈ s, z ≤ f * w
            · obtain ⟨a, x, b, e, h1, h2⟩ := ih hs
              exact ⟨v :: a, x, b, by rw [e]; rfl, h1, h2⟩
            · have hv : w = v := by
                rcases List.mem_cons.mp hw with h | h
                · exact h
                · exact absurd ⟨w, h, hwz⟩ hs
              refine ⟨[], v, s, rfl, fun y hy => ?_, by rw [← hv]; exact hwz⟩
              apply Classical.byContradiction
              intro hq
              exact hs ⟨y, hy, by omega⟩
        obtain ⟨a, x, b, e, h1, h2⟩ := scan r ⟨w, hw, hwz⟩
        exact ⟨y :: a, x, b, by rw [e]; rfl, h1, h2⟩
  intro t
  exact key (z :: t) hzz (by simp)

/-- what holds of every row -/
theorem row_facts {f : Int} (hf : 1 ≤ f) : ∀ n, (∀ y ∈ rowR f n, 1 ≤ y) ∧ (rowR f n).Pairwise (fun a b => b < a)
  | 0 => by
    refine ⟨fun y hy => ?_, ?_⟩
    · simp [rowR] at hy; omega
    · simp [rowR]
  | n + 1 => by
    obtain ⟨h1, h2⟩ := row_facts hf n
    obtain ⟨t, et⟩ := rowR_cons f n
    have hz : 1 ≤ st f n := h1 _ (by rw [et]; exact List.mem_cons_self)
    obtain ⟨a, x, b, e, hb, hx⟩ := split_at hf (st f n) hz t
    rw [← et] at e
    have ex := nxt_of_split e hb hx
    have hx1 : 1 ≤ x := h1 x (by rw [e]; simp)
    rw [rowR_succ, ex]
    refine ⟨fun y hy => ?_, List.pairwise_cons.mpr ⟨fun y hy => ?_, h2⟩⟩
    · rcases List.mem_cons.mp hy with h | h
      · omega
      · exact h1 y h
    · rw [et] at hy h2
      rcases List.mem_cons.mp hy with h | h
      · omega
      · have := (List.pairwise_cons.mp h2).1 y h
        omega
theorem row_split {f : Int} (hf : 1 ≤ f) (n : Nat) : ∃ a x b, rowR f n = a ++ x :: b ∧ (∀ y ∈ b, f * y < st f n) ∧ st f n ≤ f * x ∧ nxt f (rowR f n) = x ∧ 1 ≤ x ∧ x ≤ st f n := by
  obtain ⟨h1, h2⟩ := row_facts hf n
  obtain ⟨t, et⟩ := rowR_cons f n
  have hz : 1 ≤ st f n := h1 _ (by rw [et]; exact List.mem_cons_self)
  obtain ⟨a, x, b, e, hb, hx⟩ := split_at hf (st f n) hz t
  rw [← et] at e
  have hm : x ∈ rowR f n := by rw [e]; simp
  refine ⟨a, x, b, e, hb, hx, nxt_of_split e hb hx, h1 x hm, ?_⟩
  rw [et] at hm h2
  rcases List.mem_cons.mp hm with h | h
  · omega
  · have := (List.pairwise_cons.mp h2).1 x h
    omega
theorem st_pos {f : Int} (hf : 1 ≤ f) (n : Nat) : 1 ≤ st f n := by
  obtain ⟨t, et⟩ := rowR_cons f n
  exact (row_facts hf n).1 _ (by rw [et]; exact List.mem_cons_self)
theorem st_lt {f : Int} (hf : 1 ≤ f) (n : Nat) : st f n < st f (n + 1) := by
  obtain ⟨_, x, _, _, _, _, e, hx, _⟩ := row_split hf n
  rw [st_succ, e]; omega
theorem st_mono {f : Int} (hf : 1 ≤ f) {n : Nat} : ∀ k, st f n ≤ st f (n + k)
  | 0 => Int.le_refl _
  | k + 1 => by
    have := st_mono hf (n := n) k
    have h2 := st_lt hf (n + k)
    rw [← Nat.add_assoc]; omega
theorem st_ge {f : Int} (hf : 1 ≤ f) : ∀ n : Nat, (n : Int) + 1 ≤ st f n
  | 0 => by show (0 : Int) + 1 ≤ 1; decide
  | n + 1 => by
    have := st_ge hf n
    have h2 := st_lt hf n
    omega
theorem row_le {f : Int} (hf : 1 ≤ f) (n : Nat) {y : Int} (h : y ∈ rowR f n) : y ≤ st f n := by
  obtain ⟨t, et⟩ := rowR_cons f n
  have h2 := (row_facts hf n).2
  rw [et] at h h2
  rcases List.mem_cons.mp h with e | e
  · omega
  · have := (List.pairwise_cons.mp h2).1 y e
    omega
/-! growth -/
theorem st_grow {f : Int} (hf : 1 ≤ f) (n : Nat) : ∀ k : Nat, f * st f n + (k : Int) * st f n ≤ f * st f (n + k)
  | 0 => by simp
  | k + 1 => by
    have ih := st_grow hf n k
    obtain ⟨_, x, _, _, _, hx, e, _, _⟩ := row_split hf (n + k)
    have hm := st_mono hf (n := n) k
    rw [← Nat.add_assoc, st_succ, e, Int.mul_add]
    have e1 : ((k + 1 : Nat) : Int) * st f n = (k : Int) * st f n + st f n := by
      rw [Int.natCast_add, Int.add_mul]; simp
    rw [e1]; omega
theorem st_double {f : Int} (hf : 1 ≤ f) (h30 : f ≤ 30) (n : Nat) : 2 * st f n ≤ st f (n + 30) := by
  have h := st_grow hf n 30
  have hz := st_pos hf n
  have h2 : f * st f n ≤ 30 * st f n := Int.mul_le_mul_of_nonneg_right h30 (by omega)
  have h3 : f * (2 * st f n) ≤ f * st f (n + 30) := by
    have e : f * (2 * st f n) = 2 * (f * st f n) := by rw [← Int.mul_assoc, Int.mul_comm f 2, Int.mul_assoc]
    rw [e]
    have : ((30 : Nat) : Int) * st f n = 30 * st f n := by simp
    omega
  exact Int.le_of_mul_le_mul_left h3 (by omega)
theorem st_pow {f : Int} (hf : 1 ≤ f) (h30 : f ≤ 30) : ∀ m : Nat, (2 : Int) ^ m ≤ st f (30 * m)
  | 0 => Int.le_refl 1
  | m + 1 => by
    have ih := st_pow hf h30 m
    have h := st_double hf h30 (30 * m)
    have e : 30 * (m + 1) = 30 * m + 30 := by omega
    rw [e, Int.pow_succ]
    omega
/-- a step below 2 ^ B has a small number -/
theorem st_small {f : Int} (hf : 1 ≤ f) (h30 : f ≤ 30) {n B : Nat} (h : st f n < (2 : Int) ^ B) : n < 30 * B := by
  apply Nat.lt_of_not_le
  intro hn
  have h1 := st_pow hf h30 B
  obtain ⟨k, rfl⟩ : ∃ k, n = 30 * B + k := ⟨n - 30 * B, by omega⟩
  have h2 := st_mono hf (n := 30 * B) k
  omega

/-! ### the greedy sum -/
def gr : List Int → Int → List Int
  | [], _ => []
  | s :: l, h => if s ≤ h then s :: gr l (h - s) else gr l h
theorem gr_nil (h : Int) : gr [] h = [] := rfl
theorem gr_pos {s h : Int} {l : List Int} (c : s ≤ h) : gr (s :: l) h = s :: gr l (h - s) := if_pos c
theorem gr_neg {s h : Int} {l : List Int} (c : ¬ s ≤ h) : gr (s :: l) h = gr l h := if_neg c
def Ch (f : Int) : List Int → Prop
  | a :: b :: r => f * b < a ∧ Ch f (b :: r)
  | _ => True
theorem gr_mem : ∀ (l : List Int) (h : Int), (∀ y ∈ l, 0 ≤ y) → ∀ y ∈ gr l h, y ∈ l ∧ y ≤ h
  | [], _, _, y, hy => by simp [gr] at hy
  | s :: l, h, hp, y, hy => by
    have hs := hp s List.mem_cons_self
    have hl : ∀ y ∈ l, 0 ≤ y := fun y h => hp y (List.mem_cons_of_mem _ h)
    unfold gr at hy
    split at hy
    · rcases List.mem_cons.mp hy with e | e
      · subst e; exact ⟨List.mem_cons_self, by assumption⟩
      · obtain ⟨h1, h2⟩ := gr_mem l _ hl y e
        exact ⟨List.mem_cons_of_mem _ h1, by omega⟩
    · obtain ⟨h1, h2⟩ := gr_mem l _ hl y hy
      exact ⟨List.mem_cons_of_mem _ h1, h2⟩
theorem gr_filter : ∀ (l : List Int) (h N : Int), h ≤ N → (∀ y ∈ l, 0 ≤ y) → gr (l.filter (fun y => decide (y ≤ N))) h = gr l h
  | [], _, _, _, _ => rfl
  | s :: l, h, N, hN, hp => by
    have hs := hp s List.mem_cons_self
    have hl : ∀ y ∈ l, 0 ≤ y := fun y h => hp y (List.mem_cons_of_mem _ h)
    by_cases c : s ≤ N
    · rw [List.filter_cons_of_pos (by simpa using c)]
      unfold gr
      rw [gr_filter l h N hN hl, gr_filter l (h - s) N (by omega) hl]
    · rw [List.filter_cons_of_neg (by simpa using c), gr_filter l h N hN hl]
      conv => rhs; unfold gr
      rw [if_neg (by omega)]
theorem gr_main {f : Int} (hf : 1 ≤ f) : ∀ (n : Nat) (h : Int), 0 ≤ h → h < st f n → (gr (rowR f n) h).sum = h ∧ Ch f (gr (rowR f n) h)
  | 0, h, h0, h1 => by
    have : st f 0 = 1 := rfl
    have e : h = 0 := by omega
    subst e
    exact ⟨rfl, trivial⟩
  | n + 1, h, h0, h1 => by
    rw [rowR_succ, ← st_succ]
    unfold gr
    rw [if_neg (by omega)]
    by_cases c : h < st f n
    · exact gr_main hf n h h0 c
    · -- the step of n is taken
      obtain ⟨a, x, b, e, hb, hx, en, hx1, hx2⟩ := row_split hf n
      rw [st_succ, en] at h1
      have hl : h - st f n < st f n := by omega
      obtain ⟨i1, i2⟩ := gr_main hf n (h - st f n) (by omega) hl
      obtain ⟨t, et⟩ := rowR_cons f n
      have hgt : gr (rowR f n) (h - st f n) = gr t (h - st f n) := by
        rw [et]; unfold gr; rw [if_neg (by omega)]; cases t <;> rfl
      have hg : gr (rowR f n) h = st f n :: gr t (h - st f n) := by
        rw [et]; unfold gr; rw [if_pos (by omega)]; cases t <;> rfl
      rw [hg, ← hgt]
      refine ⟨by rw [List.sum_cons, i1]; omega, ?_⟩
      -- the chain
      have hmem := gr_mem (rowR f n) (h - st f n) (fun y hy => by have := (row_facts hf n).1 y hy; omega)
      revert i2 hmem
      generalize gr (rowR f n) (h - st f n) = G
      intro i2 hmem
      cases G with
      | nil => trivial
      | cons y r =>
        refine ⟨?_, i2⟩
        obtain ⟨m1, m2⟩ := hmem y List.mem_cons_self
        have hyx : y < x := by omega
        have hp := (row_facts hf n).2
        rw [e] at m1 hp
        rcases List.mem_append.mp m1 with q | q
        · have := (List.pairwise_append.mp hp).2.2 y q x List.mem_cons_self
          omega
        · rcases List.mem_cons.mp q with q | q
          · omega
          · exact hb y q
/-- a longer row tells the same -/
theorem gr_longer {f : Int} (hf : 1 ≤ f) {n : Nat} {h : Int} (h1 : h < st f n) : ∀ k, gr (rowR f (n + k)) h = gr (rowR f n) h
  | 0 => rfl
  | k + 1 => by
    have ih := gr_longer hf h1 k
    have h2 := st_mono hf (n := n) (k + 1)
    rw [← Nat.add_assoc] at h2 ⊢
    rw [rowR_succ, ← st_succ]
    conv => lhs; unfold gr
    rw [if_neg (by omega), ih]
theorem gr_same {f : Int} (hf : 1 ≤ f) {n m : Nat} {h : Int} (h1 : h < st f n) (h2 : h < st f m) : gr (rowR f n) h = gr (rowR f m) h := by
  by_cases c : n ≤ m
  · obtain ⟨k, rfl⟩ : ∃ k, m = n + k := ⟨m - n, by omega⟩
    exact (gr_longer hf h1 k).symm
  · obtain ⟨k, rfl⟩ : ∃ k, n = m + k := ⟨n - m, by omega⟩
    exact gr_longer hf h2 k
/-- the sum by the factor that comes to h -/
def parts (f h : Int) : List Int := gr (rowR f h.toNat) h
theorem parts_of {f : Int} (hf : 1 ≤ f) {n : Nat} {h : Int} (h0 : 0 ≤ h) (h1 : h < st f n) : gr (rowR f n) h = parts f h := by
  refine gr_same hf h1 ?_
  have := st_ge hf h.toNat
  omega
theorem parts_ok {f : Int} (hf : 1 ≤ f) {h : Int} (h0 : 0 ≤ h) : (parts f h).sum = h ∧ Ch f (parts f h) := by
  have := st_ge hf h.toNat
  exact gr_main hf h.toNat h h0 (by omega)
theorem parts_mem {f : Int} (hf : 1 ≤ f) {h : Int} : ∀ y ∈ parts f h, 1 ≤ y ∧ y ≤ h := fun y hy => by
  obtain ⟨h1, h2⟩ := gr_mem (rowR f h.toNat) h (fun y hy => by have := (row_facts hf _).1 y hy; omega) y hy
  exact ⟨(row_facts hf _).1 y h1, h2⟩
theorem ch_get {f : Int} : ∀ (l : List Int) (i : Nat) (a b : Int), Ch f l → l[i]? = some a → l[i + 1]? = some b → f * b < a
  | [], _, _, _, _, h, _ => by simp at h
  | [_], 0, _, _, _, _, h => by simp at h
  | [_], i + 1, _, _, _, h, _ => by simp at h
  | x :: y :: r, 0, a, b, hc, h1, h2 => by
    have e1 : x = a := Option.some.inj h1
    have e2 : y = b := Option.some.inj h2
    rw [← e1, ← e2]; exact hc.1
  | x :: y :: r, i + 1, a, b, hc, h1, h2 => ch_get (y :: r) i a b hc.2 h1 h2
end TA
set_option maxHeartbeats 4000000
namespace TA
/-- a place of the row from which on the next part stands -/
def Place (f : Int) (n : Nat) (p : Int) : Prop := ∃ a x b, rowR f n = a ++ x :: b ∧ p = (b.length : Int) ∧ ∀ y ∈ b, f * y < st f n
def row (f : Int) (n : Nat) : List Int := (rowR f n).reverse
theorem row_length (f : Int) (n : Nat) : (row f n).length = n + 1 := by unfold row; rw [List.length_reverse, rowR_len]
theorem row_succ (f : Int) (n : Nat) : row f (n + 1) = row f n ++ [st f (n + 1)] := by
  unfold row; rw [rowR_succ, ← st_succ, List.reverse_cons]
theorem row_init (f : Int) : row f 0 = [1] := rfl
theorem row_last (f : Int) (n : Nat) : ∃ l, row f n = l ++ [st f n] := by
  obtain ⟨t, e⟩ := rowR_cons f n
  exact ⟨t.reverse, by unfold row; rw [e, List.reverse_cons]⟩
theorem place_zero (f : Int) : Place f 0 0 := ⟨[], 1, [], rfl, rfl, fun y hy => by cases hy⟩
theorem place_at {f : Int} (hf : 1 ≤ f) {n : Nat} {p : Int} (h : Place f n p) :
    ∃ x, (row f n)[p.toNat]? = some x ∧ 0 ≤ p ∧ p ≤ n ∧ (f * x < st f n → Place f n (p + 1) ∧ p < n) ∧ (¬ f * x < st f n → nxt f (rowR f n) = x ∧ Place f (n + 1) p) := by
  obtain ⟨a, x, b, e, rfl, hb⟩ := h
  have hlen := rowR_len f n
  rw [e] at hlen
  simp only [List.length_append, List.length_cons] at hlen
  refine ⟨x, ?_, by omega, by omega, fun hx => ?_, fun hx => ?_⟩
  · unfold row
    rw [e]
    simp
  · -- a is not empty
    have hne : a ≠ [] := by
      intro ha
      subst ha
      obtain ⟨t, et⟩ := rowR_cons f n
      rw [et] at e
      have exz : st f n = x := (List.cons.inj e).1
      have hz := st_pos hf n
      have := Int.mul_le_mul_of_nonneg_right hf (show (0 : Int) ≤ x by omega)
      omega
    obtain ⟨a', x', rfl⟩ : ∃ a' x', a = a' ++ [x'] := ⟨a.dropLast, a.getLast hne, (List.dropLast_concat_getLast hne).symm⟩
    simp only [List.length_append, List.length_cons, List.length_nil] at hlen
    refine ⟨⟨a', x', x :: b, by rw [e]; simp, by simp, fun y hy => ?_⟩, by omega⟩
    rcases List.mem_cons.mp hy with q | q
    · rw [q]; exact hx
    · exact hb y q
  · have en := nxt_of_split e hb (by omega)
    refine ⟨en, ⟨(st f (n + 1)) :: a, x, b, by rw [rowR_succ, ← st_succ, e]; rfl, rfl, fun y hy => ?_⟩⟩
    have := hb y hy
    have := st_lt hf n
    omega
end TA
set_option maxHeartbeats 4000000
namespace TA
theorem mem_row {f : Int} : ∀ {n : Nat} {y : Int}, y ∈ rowR f n → ∃ j, j ≤ n ∧ y = st f j
  | 0, y, h => by
    have e : y = 1 := by simpa [rowR] using h
    exact ⟨0, Nat.le_refl 0, e⟩
  | n + 1, y, h => by
    rw [rowR_succ, ← st_succ] at h
    rcases List.mem_cons.mp h with e | e
    · exact ⟨n + 1, Nat.le_refl _, e⟩
    · obtain ⟨j, h1, h2⟩ := mem_row e
      exact ⟨j, by omega, h2⟩
theorem st_mem (f : Int) {j : Nat} : ∀ k, st f j ∈ rowR f (j + k)
  | 0 => by
    obtain ⟨t, e⟩ := rowR_cons f j
    show st f j ∈ rowR f j
    rw [e]
    exact List.mem_cons_self
  | k + 1 => by rw [← Nat.add_assoc, rowR_succ]; exact List.mem_cons_of_mem _ (st_mem f k)
theorem st_mono2 {f : Int} (hf : 1 ≤ f) {i j : Nat} (h : i ≤ j) : st f i ≤ st f j := by
  obtain ⟨k, rfl⟩ : ∃ k, j = i + k := ⟨j - i, by omega⟩
  exact st_mono hf k
theorem st_mono3 {f : Int} (hf : 1 ≤ f) {i j : Nat} (h : i < j) : st f i < st f j := by
  have h1 := st_lt hf i
  have h2 := st_mono2 hf (show i + 1 ≤ j from h)
  omega
theorem st_lt_of {f : Int} (hf : 1 ≤ f) {i j : Nat} (h : st f i < st f j) : i < j := by
  apply Nat.lt_of_not_le
  intro c
  have := st_mono2 hf c
  omega
/-- the next step: the row's last and the least that, times the factor, is no less -/
theorem nxt_least {f : Int} (hf : 1 ≤ f) (i : Nat) : ∃ j, j ≤ i ∧ st f (i + 1) = st f i + st f j ∧ st f i ≤ f * st f j ∧ ∀ m, m < j → f * st f m < st f i := by
  obtain ⟨a, x, b, e, hb, hx, en, hx1, hx2⟩ := row_split hf i
  have hm : x ∈ rowR f i := by rw [e]; simp
  obtain ⟨j, hj, ej⟩ := mem_row hm
  subst ej
  refine ⟨j, hj, by rw [st_succ, en], hx, fun m hmj => ?_⟩
  have hlt := st_mono3 hf hmj
  obtain ⟨k, ek⟩ : ∃ k, i = m + k := ⟨i - m, by omega⟩
  have hmem : st f m ∈ rowR f i := by rw [ek]; exact st_mem f k
  have hp := (row_facts hf i).2
  rw [e] at hmem hp
  rcases List.mem_append.mp hmem with q | q
  · have := (List.pairwise_append.mp hp).2.2 _ q _ List.mem_cons_self
    omega
  · rcases List.mem_cons.mp q with q | q
    · omega
    · exact hb _ q
theorem top_step {f : Int} (hf : 1 ≤ f) {h : Int} (h1 : 1 ≤ h) : ∃ i, st f i ≤ h ∧ h < st f (i + 1) := by
  have key : ∀ n : Nat, h < st f n → ∃ i, st f i ≤ h ∧ h < st f (i + 1) := by
    intro n
    induction n with
    | zero => intro q; have : st f 0 = 1 := rfl; omega
    | succ n ih =>
      intro q
      by_cases c : h < st f n
      · exact ih c
      · exact ⟨n, by omega, q⟩
  have := st_ge hf h.toNat
  exact key h.toNat (by omega)
theorem sum_one {S : List Int} {g : Int → Int} {a v : Int} : S.Nodup → a ∈ S → g a = v → (∀ b ∈ S, b ≠ a → g b = 0) → (S.map g).sum = v := by
  induction S with
  | nil => intro _ h; cases h
  | cons b r ih =>
    intro hn ha hg h0
    rw [List.map_cons, List.sum_cons]
    obtain ⟨n1, n2⟩ := List.nodup_cons.mp hn
    rcases List.mem_cons.mp ha with e | e
    · subst e
      have hz : ∀ l : List Int, (∀ b ∈ l, g b = 0) → (l.map g).sum = 0 := by
        intro l
        induction l with
        | nil => intro _; rfl
        | cons c r ih2 =>
          intro hc
          rw [List.map_cons, List.sum_cons, hc c List.mem_cons_self, ih2 fun b hb => hc b (List.mem_cons_of_mem _ hb)]
          rfl
      rw [hg, hz r fun b hb => h0 b (List.mem_cons_of_mem _ hb) (fun q => n1 (q ▸ hb))]
      omega
    · have hne : b ≠ a := fun q => n1 (q ▸ e)
      rw [h0 b List.mem_cons_self hne, ih n2 e hg fun c hc => h0 c (List.mem_cons_of_mem _ hc)]
      omega
def ways (f : Int) (steps : List Int) : Nat → Int → Int → Int
  | 0, _, _ => 1
  | n + 1, number, most => if number = 0 then 1 else (steps.map fun s => if s ≤ number ∧ f * s < most then ways f steps n (number - s) s else 0).sum
/-- the steps that are no more than N, of a row that is long enough -/
def below (f : Int) (n : Nat) (N : Int) : List Int := (row f n).filter (fun y => decide (y ≤ N))
theorem ways_zero (f : Int) (S : List Int) (m : Nat) (most : Int) : ways f S m 0 most = 1 := by
  cases m with
  | zero => rfl
  | succ m => unfold ways; rw [if_pos rfl]
/-- just one sum comes to a number -/
theorem ways_top {f : Int} (hf : 1 ≤ f) {n : Nat} {N : Int} (hN : N < st f n) : ∀ (m : Nat) (num most : Int) (i : Nat), 0 < num → num ≤ m → num ≤ N → st f i ≤ num → num < st f (i + 1) →
    ways f (below f n N) m num most = if f * st f i < most then 1 else 0
  | 0, num, most, i, h0, h1, _, _, _ => by omega
  | m + 1, num, most, i, h0, h1, h2, h3, h4 => by
    unfold ways
    rw [if_neg (by omega)]
    have hin : i < n := st_lt_of hf (by omega)
    have hmem : st f i ∈ below f n N := by
      unfold below row
      refine List.mem_filter.mpr ⟨List.mem_reverse.mpr ?_, decide_eq_true (by omega)⟩
      obtain ⟨k, ek⟩ : ∃ k, n = i + k := ⟨n - i, by omega⟩
      rw [ek]
      exact st_mem f k
    have hnd : (below f n N).Nodup := by
      unfold below row
      refine List.Nodup.sublist List.filter_sublist ?_
      exact List.pairwise_reverse.mpr ((row_facts hf n).2.imp (fun {a b} h e => by omega))
    refine sum_one hnd hmem ?_ ?_
    · by_cases c : f * st f i < most
      · rw [if_pos ⟨h3, c⟩, if_pos c]
        obtain ⟨j, hj, ej, hx, hl⟩ := nxt_least hf i
        rcases Int.lt_or_eq_of_le (show 0 ≤ num - st f i by omega) with q | q
        · obtain ⟨i', t1, t2⟩ := top_step hf (show 1 ≤ num - st f i by omega)
          have hp := st_pos hf i
          rw [ways_top hf hN m (num - st f i) (st f i) i' q (by omega) (by omega) t1 t2]
          have : i' < j := st_lt_of hf (by omega)
          rw [if_pos (hl i' this)]
        · rw [← q]
          exact ways_zero _ _ _ _
      · rw [if_neg (fun z => c z.2), if_neg c]
    · intro b hb hne
      have hb' : b ∈ rowR f n := by
        unfold below row at hb
        exact List.mem_reverse.mp (List.mem_filter.mp hb).1
      obtain ⟨k, hk, rfl⟩ := mem_row hb'
      by_cases c : st f k ≤ num ∧ f * st f k < most
      · rw [if_pos c]
        have hki : k < i := by
          have c1 := c.1
          have : k < i + 1 := st_lt_of hf (by omega)
          have : k ≠ i := fun e => hne (by rw [e])
          omega
        obtain ⟨j, hj, ej, hx, hl⟩ := nxt_least hf k
        have hle := st_mono2 hf (show k + 1 ≤ i from hki)
        have hpj := st_pos hf j
        have hpk := st_pos hf k
        obtain ⟨i', t1, t2⟩ := top_step hf (show 1 ≤ num - st f k by omega)
        rw [ways_top hf hN m (num - st f k) (st f k) i' (by omega) (by omega) (by omega) t1 t2]
        have hji : j ≤ i' := by
          have : j < i' + 1 := st_lt_of hf (by omega)
          omega
        have hm := Int.mul_le_mul_of_nonneg_left (st_mono2 hf hji) (show 0 ≤ f by omega)
        rw [if_neg (by omega)]
      · rw [if_neg c]
theorem ways_all {f : Int} (hf : 1 ≤ f) {n : Nat} (hN : (40 : Int) < st f n) {k : Int} (k0 : 1 ≤ k) (k1 : k ≤ 40) : ways f (below f n 40) 40 k (f * 41 + 1) = 1 := by
  obtain ⟨i, t1, t2⟩ := top_step hf k0
  rw [ways_top hf hN 40 k (f * 41 + 1) i (by omega) (by omega) k1 t1 t2]
  have hm := Int.mul_le_mul_of_nonneg_left (show st f i ≤ 41 by omega) (show 0 ≤ f by omega)
  rw [if_pos (by omega)]
theorem st_one : ∀ n, st 1 n = 2 ^ n
  | 0 => rfl
  | n + 1 => by
    obtain ⟨_, x, _, _, _, hx, e, _, hle⟩ := row_split (f := 1) (Int.le_refl 1) n
    have ih := st_one n
    rw [st_succ, e, Int.pow_succ]
    omega
theorem c1 : [st 2 0, st 2 1, st 2 2, st 2 3, st 2 4, st 2 5] = [1, 2, 3, 5, 8, 13] := by decide +kernel
theorem c2 : [st 3 0, st 3 1, st 3 2, st 3 3, st 3 4, st 3 5, st 3 6] = [1, 2, 3, 4, 6, 8, 11] := by decide +kernel
theorem c3 : parts 2 100 = [89, 8, 3] := by
  rw [← parts_of (f := 2) (by decide) (n := 10) (by decide) (by decide +kernel)]
  decide +kernel
theorem c5 : parts 1 13 = [8, 4, 1] := by
  rw [← parts_of (f := 1) (by decide) (n := 4) (by decide) (by decide +kernel)]
  decide +kernel
end TA
set_option maxHeartbeats 4000000
namespace TA
theorem parts_zero (f : Int) : parts f 0 = [] := rfl
/-- the greatest step that fits is the first part -/
theorem parts_cons {f : Int} (hf : 1 ≤ f) {i : Nat} {h : Int} (h1 : st f i ≤ h) (h2 : h < st f (i + 1)) : parts f h = st f i :: parts f (h - st f i) := by
  have hz := st_pos hf i
  rw [← parts_of hf (n := i + 1) (by omega) h2, rowR_succ, ← st_succ, gr_neg (by omega)]
  obtain ⟨a, x, b, e, hb, hx, en, hx1, hx2⟩ := row_split hf i
  rw [st_succ, en] at h2
  obtain ⟨t, et⟩ := rowR_cons f i
  have e1 : parts f (h - st f i) = gr t (h - st f i) := by
    rw [← parts_of hf (n := i) (by omega) (show h - st f i < st f i by omega), et, gr_neg (by omega)]
  rw [e1, et, gr_pos h1]
theorem parts_head {f : Int} (hf : 1 ≤ f) {h : Int} (h1 : 1 ≤ h) : ∃ i, st f i ≤ h ∧ h < st f (i + 1) ∧ parts f h = st f i :: parts f (h - st f i) := by
  obtain ⟨i, a, b⟩ := top_step hf h1
  exact ⟨i, a, b, parts_cons hf a b⟩
theorem parts_pos {f : Int} (hf : 1 ≤ f) {h : Int} (h0 : 0 ≤ h) (ne : parts f h ≠ []) : 1 ≤ h := by
  have : h ≠ 0 := fun e => ne (by rw [e]; rfl)
  omega
/-- the last part away, a lesser number in its place -/
theorem parts_swap {f : Int} (hf : 1 ≤ f) : ∀ (m : List Int) {h s r : Int}, 0 ≤ h → parts f h = m ++ [s] → 0 ≤ r → r < s → parts f (h - s + r) = m ++ parts f r
  | [], h, s, r, h0, e, r0, rs => by
    have hsum := (parts_ok hf h0).1
    rw [e] at hsum
    have : s = h := by simpa using hsum
    rw [this]
    have e2 : h - h + r = r := by omega
    rw [e2]
    rfl
  | x :: m, h, s, r, h0, e, r0, rs => by
    have h1 := parts_pos hf h0 (by rw [e]; simp)
    obtain ⟨i, a, b, c⟩ := parts_head hf h1
    rw [c] at e
    have ex : st f i = x := (List.cons.inj e).1
    have er : parts f (h - st f i) = m ++ [s] := (List.cons.inj e).2
    have hle : s ≤ h - st f i := (parts_mem hf s (by rw [er]; simp)).2
    have ih := parts_swap hf m (show 0 ≤ h - st f i by omega) er r0 rs
    rw [parts_cons hf (i := i) (show st f i ≤ h - s + r by omega) (by omega), ex]
    have e3 : h - s + r - x = h - st f i - s + r := by omega
    rw [e3, ih]
    rfl
theorem parts_but {f : Int} (hf : 1 ≤ f) {m : List Int} {h s : Int} (h0 : 0 ≤ h) (e : parts f h = m ++ [s]) : parts f (h - s) = m := by
  have hs := (parts_mem hf s (by rw [e]; simp)).1
  have := parts_swap hf m h0 e (Int.le_refl 0) (by omega)
  rw [Int.add_zero, parts_zero, List.append_nil] at this
  exact this
/-- the part ahead of the last one -/
theorem ch_last {f : Int} : ∀ (m : List Int) (y s : Int), Ch f (m ++ [y, s]) → f * s < y
  | [], _, _, h => h.1
  | [_], y, s, h => ch_last [] y s h.2
  | _ :: b :: m, y, s, h => ch_last (b :: m) y s h.2
/-- what is left of a step has a last part that is no more than f times what is away -/
theorem last_le {f : Int} (hf : 1 ≤ f) : ∀ (n i : Nat) (t : Int), i ≤ n → 0 < t → t < st f i → ∃ m z, parts f (st f i - t) = m ++ [z] ∧ z ≤ f * t
  | _, 0, t, _, h0, h1 => by
    have : st f 0 = 1 := rfl
    omega
  | 0, i + 1, _, hi, _, _ => by omega
  | n + 1, i + 1, t, hi, h0, h1 => by
    obtain ⟨k, hk, ek, hx, hl⟩ := nxt_least hf i
    have hzi := st_pos hf i
    have hzk := st_pos hf k
    rcases Int.lt_trichotomy t (st f k) with c | c | c
    · obtain ⟨m, z, e, hz⟩ := last_le hf n k t (by omega) h0 c
      refine ⟨st f i :: m, z, ?_, hz⟩
      rw [parts_cons hf (i := i) (show st f i ≤ st f (i + 1) - t by omega) (by omega)]
      have e2 : st f (i + 1) - t - st f i = st f k - t := by omega
      rw [e2, e]
      rfl
    · refine ⟨[], st f i, ?_, by rw [c]; exact hx⟩
      rw [parts_cons hf (i := i) (show st f i ≤ st f (i + 1) - t by omega) (by omega)]
      have e2 : st f (i + 1) - t - st f i = 0 := by omega
      rw [e2]
      rfl
    · obtain ⟨m, z, e, hz⟩ := last_le hf n i (t - st f k) (by omega) (by omega) (by omega)
      refine ⟨m, z, ?_, ?_⟩
      · have e2 : st f (i + 1) - t = st f i - (t - st f k) := by omega
        rw [e2, e]
      · have := Int.mul_le_mul_of_nonneg_left (show t - st f k ≤ t by omega) (show 0 ≤ f by omega)
        omega
theorem parts_step {f : Int} (hf : 1 ≤ f) : ∀ (m : List Int) {h s : Int}, 0 ≤ h → parts f h = m ++ [s] → ∃ i, s = st f i
  | [], h, s, h0, e => by
    obtain ⟨i, a, b, c⟩ := parts_head hf (parts_pos hf h0 (by rw [e]; simp))
    rw [c] at e
    exact ⟨i, (List.cons.inj e).1.symm⟩
  | x :: m, h, s, h0, e => by
    obtain ⟨i, a, b, c⟩ := parts_head hf (parts_pos hf h0 (by rw [e]; simp))
    rw [c] at e
    exact parts_step hf m (show 0 ≤ h - st f i by omega) (List.cons.inj e).2
/-- less than the last part away: the last part then is no more than f times that -/
theorem lost_none {f : Int} (hf : 1 ≤ f) {m : List Int} {h s t : Int} (h0 : 0 ≤ h) (e : parts f h = m ++ [s]) (t0 : 0 < t) (t1 : t < s) : ∃ m' z, parts f (h - t) = m' ++ [z] ∧ z ≤ f * t := by
  obtain ⟨i, rfl⟩ := parts_step hf m h0 e
  obtain ⟨m1, z, e1, hz⟩ := last_le hf i i t (Nat.le_refl i) t0 t1
  have := parts_swap hf m h0 e (show 0 ≤ st f i - t by omega) (by omega)
  refine ⟨m ++ m1, z, ?_, hz⟩
  have e2 : h - st f i + (st f i - t) = h - t := by omega
  rw [e2] at this
  rw [this, e1, List.append_assoc]
end TA
set_option Elab.async false
set_option linter.all false
set_option maxRecDepth 100000
namespace TA
open PySem L2
def top (i : Nat) : Stmt := PySem.Challenge.pw_takeagain_k01_whole_told.main.body.getD i (.Pass ⟨0, 0, 0, 0⟩)
abbrev sIsWhole : Stmt := top 8
abbrev sIsWholeList : Stmt := top 9
abbrev sIsTaking : Stmt := top 10
abbrev sCkFactor : Stmt := top 11
abbrev sCkHeap : Stmt := top 12
abbrev sSumOf : Stmt := top 14
abbrev sAddStep : Stmt := top 15
abbrev sRowPast : Stmt := top 16
abbrev cAnswer : Stmt := top 18
abbrev cLost : Stmt := top 19
abbrev sLostInit : Stmt := inClass (top 19) 0
abbrev sLostShows : Stmt := inClass (top 19) 1
abbrev cWon : Stmt := top 20
abbrev sWonInit : Stmt := inClass (top 20) 0
abbrev sWonShows : Stmt := inClass (top 20) 1
abbrev sIsLost : Stmt := top 21
abbrev sLeftBy : Stmt := top 22
abbrev sTold : Stmt := top 24
abbrev sBehind : Stmt := top 25
abbrev sCkTurn : Stmt := top 26
abbrev sCkLimit : Stmt := top 27
abbrev sCkTaking : Stmt := top 28
abbrev sCellAt : Stmt := top 30
abbrev sDraw : Stmt := top 31
abbrev sValue : Stmt := top 32
abbrev sFactor : Stmt := top 33
abbrev sSteps : Stmt := top 34
abbrev sParts : Stmt := top 35
abbrev sHeap : Stmt := top 36
abbrev sLawLimits : Stmt := top 37
abbrev sLawLost : Stmt := top 38
abbrev sLWhole : Stmt := top 39
abbrev sLawIsSum : Stmt := top 40
abbrev sLawSays : Stmt := top 41
abbrev sLawDue : Stmt := top 42
abbrev sRight : Stmt := top 43
abbrev sLawTakingsRight : Stmt := top 44
abbrev sLaw : Stmt := top 45
abbrev nStp : Str := "_law_step"
abbrev nDue : Str := "_law_due_here"
end TA
set_option Elab.async false
set_option linter.all false
set_option maxRecDepth 100000
set_option maxHeartbeats 4000000
namespace TA
open PySem PySem.Spec PyProof.Rows L2
section
variable {P : Program} {w : World} {K : PySem.W.Frag} {mg : Str → Option Value} {base : Heap}
/-! ### is_whole -/
def spIsWhole (K : PySem.W.Frag) : Sp := fun vs H Q _ => ∃ v T m, vs = [v, .int m] ∧ TyB K H v T ∧ ((∃ n, v = .int n ∧ Q (.bl (decide (m ≤ n))) H) ∨ (T ≠ "int" ∧ Q (.bl false) H))
theorem scIsWhole : FnScope ["value", "least"] ["value", "least"] (defScope sIsWhole) := ⟨rfl, rfl, rfl, by decide +kernel, rfl, by decide +kernel, by decide +kernel⟩
theorem ok_is_whole {f : Addr} {fd : FuncData} (F : Fun K "is_whole" "is_whole" sIsWhole f fd) (mt : mg "type" = none) (mi : mg "int" = none) :
    FnOk P w K mg base CX0 1 f fd ["value", "least"] (spIsWhole K) := by
  refine F.ok scIsWhole (fun vs H Q E h => ?_) (fun cdv A outer s H vs Q E hr h => ?_)
  · obtain ⟨v, T, m, rfl, _⟩ := h
    rfl
  · obtain ⟨v, T, m, rfl, hT, h⟩ := h
    refine ⟨_, pss_one (ps_ret (pe_and (pe_cmpR op_isTy (pe_callTy call_type1 (by rfl) mt (by decide +kernel) (pa_cons (pv 0) pa_nil)) (pe_bltn (v := .ty "int") (by rfl) mi (by decide +kernel) rfl) (nomark _))
      (pe_one (pe_cmpR op_ge (pv 0) (pv 1) (nomark _))))), ?_⟩
    refine ⟨v, rfl, v, T, rfl, hT, T, "int", rfl, rfl, _, rfl, ?_⟩
    rcases h with ⟨n, rfl, q⟩ | ⟨ne, q⟩
    · cases hT
      refine iteT ⟨_, rfl, _, rfl, _, _, rfl, rfl, ?_⟩
      exact q
    · rw [decide_eq_false ne]
      exact iteF q
end
end TA
set_option Elab.async false
set_option linter.all false
set_option maxRecDepth 100000
set_option maxHeartbeats 4000000
namespace TA
open PySem PySem.Spec PyProof.Rows L2
theorem item_of {ns : List Int} {i : Nat} {y : V} (h : (ns.map V.int)[i]? = some y) : ∃ u, ns[i]? = some u ∧ y = V.int u := by
  rw [List.getElem?_map] at h
  cases e : ns[i]? with
  | none =>
    rw [e] at h
    cases h
  | some u =>
    rw [e] at h
    exact ⟨u, rfl, (Option.some.inj h).symm⟩
section
variable {P : Program} {w : World} {K : PySem.W.Frag} {mg : Str → Option Value} {base : Heap}
/-! ### the checks, of what is such -/
def spCkFactor : Sp := fun vs H Q _ => ∃ n, vs = [.int n] ∧ 1 ≤ n ∧ n ≤ 30 ∧ Q .non H
theorem scCkFactor : FnScope ["factor"] ["factor"] (defScope sCkFactor) := ⟨rfl, rfl, rfl, by decide +kernel, rfl, by decide +kernel, by decide +kernel⟩
theorem ok_ck_factor {f fW : Addr} {fd fdW : FuncData} {t : Tok} (F : Fun K "check_factor" "check_factor" sCkFactor f fd) (FW : Fun K "is_whole" "is_whole" sIsWhole fW fdW) (bW : Binds K fdW ["value", "least"] []) (gW : mg "is_whole" = some (.ref fW))
    (gG : mg "GREATEST_FACTOR" = some (.int 30 t)) (mt : mg "type" = none) (mi : mg "int" = none) :
    FnOk P w K mg base CX0 2 f fd ["factor"] spCkFactor := by
  have GW : FnOk P w K mg base CX0 1 fW fdW ["value", "least"] (spIsWhole K) := ok_is_whole FW mt mi
  refine F.ok scCkFactor (fun vs H Q E h => ?_) (fun cdv A outer s H vs Q E hr h => ?_)
  · obtain ⟨n, rfl, _⟩ := h
    rfl
  · obtain ⟨n, rfl, h1, h2, q⟩ := h
    refine ⟨_, pss_one (ps_if (PW.pt (pw_or (pt_not (pt_val (pe_call GW hr (by rfl) gW FW.kp bW .nil pass0 (pa_cons (pv 0) (pa_cons pe_int pa_nil)))))
      (pw_or1 (pt_cmpR op_gt (pv 0) (pe_glob (v := .int 30) (by rfl) gG ⟨_, rfl⟩) (nomark _))))) pss_never pss_nil), ?_⟩
    refine ⟨_, rfl, _, _, _, rfl, .int n, .inl ⟨n, rfl, _, rfl, ?_⟩⟩
    rw [decide_eq_true h1]
    refine iteF ⟨_, rfl, _, _, rfl, rfl, _, rfl, ?_⟩
    rw [decide_eq_false (by omega)]
    exact iteF q
def spCkHeap : Sp := fun vs H Q _ => ∃ n, vs = [.int n] ∧ 0 ≤ n ∧ Q .non H
theorem scCkHeap : FnScope ["heap"] ["heap"] (defScope sCkHeap) := ⟨rfl, rfl, rfl, by decide +kernel, rfl, by decide +kernel, by decide +kernel⟩
theorem ok_ck_heap {f fW : Addr} {fd fdW : FuncData} (F : Fun K "check_heap" "check_heap" sCkHeap f fd) (FW : Fun K "is_whole" "is_whole" sIsWhole fW fdW) (bW : Binds K fdW ["value", "least"] []) (gW : mg "is_whole" = some (.ref fW))
    (mt : mg "type" = none) (mi : mg "int" = none) :
    FnOk P w K mg base CX0 2 f fd ["heap"] spCkHeap := by
  have GW : FnOk P w K mg base CX0 1 fW fdW ["value", "least"] (spIsWhole K) := ok_is_whole FW mt mi
  refine F.ok scCkHeap (fun vs H Q E h => ?_) (fun cdv A outer s H vs Q E hr h => ?_)
  · obtain ⟨n, rfl, _⟩ := h
    rfl
  · obtain ⟨n, rfl, h1, q⟩ := h
    refine ⟨_, pss_one (ps_if (pt_not (pt_val (pe_call GW hr (by rfl) gW FW.kp bW .nil pass0 (pa_cons (pv 0) (pa_cons pe_int pa_nil))))) pss_never pss_nil), ?_⟩
    refine ⟨_, rfl, _, _, _, rfl, .int n, .inl ⟨n, rfl, _, rfl, ?_⟩⟩
    rw [decide_eq_true h1]
    exact iteF q
end
end TA
set_option Elab.async false
set_option linter.all false
set_option maxRecDepth 100000
set_option maxHeartbeats 4000000
namespace TA
open PySem PySem.Spec PyProof.Rows L2
theorem vlast {xs : List Int} {l : List Int} {z : Int} (e : xs = l ++ [z]) : atI (xs.map V.int) (-1) = some (.int z) := by
  rw [e, List.map_append]
  exact atI_last _ _
theorem vat {xs : List Int} {p : Int} {z : Int} (h0 : 0 ≤ p) (e : xs[p.toNat]? = some z) : atI (xs.map V.int) p = some (.int z) :=
  at_of (j := p.toNat) (by omega) (by rw [List.getElem?_map, e]; rfl)
theorem f_small {f : Int} (h1 : 1 ≤ f) (h2 : f ≤ 30) : -(2 ^ 64) < f ∧ f < 2 ^ 64 := by
  constructor
  · have : (2 : Int) ^ 64 = 18446744073709551616 := by decide
    omega
  · have : (2 : Int) ^ 64 = 18446744073709551616 := by decide
    omega
def rowV (f : Int) (n : Nat) : List V := (row f n).map V.int
theorem rowV_length (f : Int) (n : Nat) : (rowV f n).length = n + 1 := by unfold rowV; rw [List.length_map, row_length]
theorem rowV_succ (f : Int) (n : Nat) : rowV f (n + 1) = rowV f n ++ [.int (st f (n + 1))] := by unfold rowV; rw [row_succ, List.map_append]; rfl
theorem rowV_last (f : Int) (n : Nat) : atI (rowV f n) (-1) = some (.int (st f n)) := by
  obtain ⟨l, e⟩ := row_last f n
  exact vlast e
theorem small_line {n : Nat} (h : n ≤ 1000000) : n < sizeLine := Nat.lt_of_le_of_lt h (by decide)
section
variable {P : Program} {w : World} {K : PySem.W.Frag} {mg : Str → Option Value} {base : Heap}
/-! ### add_step -/
def spAddStep : Sp := fun vs H Q _ => ∃ (f : Int) (r : Addr) (p : Int) (n : Nat), vs = [.int f, .ref r, .int p] ∧ 1 ≤ f ∧ f ≤ 30 ∧ H r = some (.lst (rowV f n)) ∧ Place f n p ∧ n ≤ 10000 ∧
  ∀ p', Place f (n + 1) p' → Q (.int p') (upd H r (.lst (rowV f (n + 1))))
theorem scAddStep : FnScope ["factor", "row", "place"] ["factor", "row", "place"] (defScope sAddStep) := ⟨rfl, rfl, rfl, by decide +kernel, rfl, by decide +kernel, by decide +kernel⟩
theorem ok_add_step {f : Addr} {fd : FuncData} (F : Fun K "add_step" "add_step" sAddStep f fd) :
    FnOk P w K mg base CX0 1 f fd ["factor", "row", "place"] spAddStep := by
  refine F.ok scAddStep (fun vs H Q E h => ?_) (fun cdv A outer s H vs Q E hr h => ?_)
  · obtain ⟨f, r, p, n, rfl, _⟩ := h
    rfl
  · obtain ⟨f, r, p, n, rfl, h1, h30, hR, hp, hn, q⟩ := h
    refine ⟨_, pss_cons (ps_while PassesOwn.never (pt_cmpR op_lt (pe_op op_mul (pv 0) (pe_ix ix_list (pv 1) (pv 2) (fun _ _ => rfl))) (pe_ix ix_list (pv 1) (pe_un un_neg pe_int) (fun _ _ => rfl)) (nomark _))
        (pss_one (ps_aug (i := 2) scAddStep.nd rfl (.inl rfl) pe_int ip_add)))
      (pss_cons (ps_expr (pe_bm PySem.F.plainAttrs_list PySem.F.slot_list_append PySem.F.type_list_append mt_append (pv 1) (pa_cons (pe_op op_add (pe_ix ix_list (pv 1) (pe_un un_neg pe_int) (fun _ _ => rfl)) (pe_ix ix_list (pv 1) (pv 2) (fun _ _ => rfl))) pa_nil)))
      (pss_one (ps_ret (pv 2)))), ?_⟩
    refine ⟨fun m σ H' => H' = H ∧ ∃ p : Int, σ = [some (.int f), some (.ref r), some (.int p)] ∧ Place f n p ∧ p + m = n, ?_, ?_⟩
    · obtain ⟨x, _, a0, a1, _⟩ := place_at h1 hp
      exact ⟨(n - p).toNat, rfl, p, rfl, hp, by omega⟩
    · rintro m σ H' ⟨rfl, p, rfl, hp, em⟩
      obtain ⟨x, hx, p0, pn, more, last⟩ := place_at h1 hp
      have hL : SqL K H' r (rowV f n) := SqL.of hR
      have gx : atI (rowV f n) p = some (.int x) := vat p0 hx
      refine ⟨.int f, rfl, .ref r, rfl, .int p, rfl, r, _, _, _, rfl, rfl, hL, gx, f, x, rfl, rfl, .inl (f_small h1 h30), .ref r, rfl, 1, rfl, r, _, _, _, rfl, rfl, hL, rowV_last f n, _, _, rfl, rfl, _, rfl, ?_⟩
      refine ite2 (fun c => ?_) (fun c => ?_)
      · obtain ⟨hp', plt⟩ := more (of_decide_eq_true c)
        refine ⟨fun σ' H'' => H'' = H' ∧ σ' = [some (.int f), some (.ref r), some (.int (p + 1))], fun σ' H'' ⟨e1, e2⟩ => ⟨m - 1, by omega, e1, p + 1, e2, hp', by omega⟩, ?_⟩
        exact ⟨_, rfl, _, _, rfl, rfl, rfl, rfl⟩
      · obtain ⟨en, hp'⟩ := last (of_decide_eq_false (Bool.eq_false_iff.mpr c))
        refine ⟨.ref r, rfl, .inl ⟨rfl, _, hL⟩, .ref r, rfl, 1, rfl, r, _, _, _, rfl, rfl, hL, rowV_last f n, .ref r, rfl, .int p, rfl, r, _, _, _, rfl, rfl, hL, gx, st f n, x, rfl, rfl, r, _, _, rfl, rfl, hR, ?_, .int p, rfl, ?_⟩
        · rw [rowV_length]
          exact small_line (by omega)
        · have := q p hp'
          rw [rowV_succ, st_succ, en] at this
          exact this
end
end TA
set_option Elab.async false
set_option linter.all false
set_option maxRecDepth 100000
set_option maxHeartbeats 4000000
namespace TA
open PySem PySem.Spec PyProof.Rows L2
/-! ### == of lists of ints -/
theorem eqv_ints : ∀ as bs : List Int, PyData.eqvAll (as.map .int) (bs.map .int) = decide (as = bs)
  | [], [] => rfl
  | [], _ :: _ => rfl
  | _ :: _, [] => rfl
  | a :: as, b :: bs => by
    show (PyData.eqv (.int a) (.int b) && PyData.eqvAll (as.map .int) (bs.map .int)) = _
    rw [eqv_ints as bs]
    have e : PyData.eqv (.int a) (.int b) = decide (a = b) := by
      rw [PyData.eqv]
      by_cases h : a = b
      · subst h; simp
      · simp [h]
    rw [e]
    by_cases h : a = b
    · subst h; simp
    · simp [h]
theorem lay_ints : ∀ as : List Int, PyData.canLayAll0 (as.map .int) = true ∧ PyData.depthAll (as.map .int) = 0
  | [] => ⟨rfl, rfl⟩
  | a :: as => by
    obtain ⟨h1, h2⟩ := lay_ints as
    constructor
    · show (PyData.canLay0 (.int a) && PyData.canLayAll0 (as.map .int)) = true
      rw [h1]; simp [PyData.canLay0]
    · show max (PyData.depth (.int a)) (PyData.depthAll (as.map .int)) = 0
      rw [h2]; simp [PyData.depth]
theorem shaped_ints (as : List Int) : SeqAt.shaped (.list (as.map .int)) = true := by
  obtain ⟨h1, h2⟩ := lay_ints as
  unfold SeqAt.shaped
  have e1 : PyData.canLay0 (.list (as.map .int)) = true := by simp only [PyData.canLay0]; exact h1
  have e2 : PyData.depth (.list (as.map .int)) ≤ 64 := by simp only [PyData.depth]; rw [h2]; decide
  rw [e1, decide_eq_true e2]; rfl
theorem dp_all {K : PySem.W.Frag} {H : Hp} : ∀ ns : List Int, DpAll K H (ns.map V.int) (ns.map PyData.int)
  | [] => .nil
  | n :: ns => .cons (.int n) (dp_all ns)
theorem dp_ints {K : PySem.W.Frag} {H : Hp} {a : Addr} {ns : List Int} (h : SqL K H a (ns.map V.int)) : Dp K H (.ref a) (.list (ns.map PyData.int)) := .lst h (dp_all ns)
def rEqL (K : PySem.W.Frag) : R2 := fun x y H Q => ∃ (a b : Addr) (xs ys : List Int), x = .ref a ∧ y = .ref b ∧ SqL K H a (xs.map V.int) ∧ SqL K H b (ys.map V.int) ∧ Q (.bl (decide (xs = ys))) H
def rNeL (K : PySem.W.Frag) : R2 := fun x y H Q => ∃ (a b : Addr) (xs ys : List Int), x = .ref a ∧ y = .ref b ∧ SqL K H a (xs.map V.int) ∧ SqL K H b (ys.map V.int) ∧ Q (.bl (!decide (xs = ys))) H
section
variable {X : Cx}
theorem op_eqL (hu : X.A.units + 64 < cLine) : OpR X (compareOp .Eq) (rEqL X.K) := by
  intro pins s σ H x y v u Q I rx ry h
  obtain ⟨a, b, xs, ys, rfl, rfl, h1, h2, q⟩ := h
  refine op_eqD hu pins s σ H _ _ v u Q I rx ry ⟨_, _, dp_ints h1, dp_ints h2, shaped_ints _, shaped_ints _, ?_⟩
  rw [PyData.eqv, eqv_ints]
  exact q
theorem op_neL (hu : X.A.units + 64 < cLine) : OpR X (compareOp .NotEq) (rNeL X.K) := by
  intro pins s σ H x y v u Q I rx ry h
  obtain ⟨a, b, xs, ys, rfl, rfl, h1, h2, q⟩ := h
  refine op_neD hu pins s σ H _ _ v u Q I rx ry ⟨_, _, dp_ints h1, dp_ints h2, shaped_ints _, shaped_ints _, ?_⟩
  rw [PyData.eqv, eqv_ints]
  exact q
end
theorem same_new {H H' : Hp} {p : Addr} {o : HO} (s : Same H H') (h : H p = none) : Same H (upd H' p o) := fun b x e => by
  rw [upd_ne (ne_of_none e h)]
  exact s b x e
theorem same_upd {H : Hp} {p : Addr} {o : HO} (h : H p = none) : Same H (upd H p o) := same_new (Same.refl H) h
end TA
set_option Elab.async false
set_option linter.all false
set_option maxRecDepth 100000
set_option maxHeartbeats 4000000
namespace TA
open PySem PySem.Spec PyProof.Rows L2
/-- the greatest heap that is asked: below 2 ^ B -/
abbrev Bd : Int := 2 ^ 300
theorem num_of {f : Int} {n : Nat} {h : Int} (h1 : 1 ≤ f) (h30 : f ≤ 30) (hz : st f n ≤ h) (hb : h < Bd) : n < 9000 :=
  st_small h1 h30 (B := 300) (Int.lt_of_le_of_lt hz hb)
section
variable {P : Program} {w : World} {K : PySem.W.Frag} {mg : Str → Option Value} {base : Heap}
/-! ### row_past -/
def spRowPast : Sp := fun vs H Q _ => ∃ (f h : Int), vs = [.int f, .int h] ∧ 1 ≤ f ∧ f ≤ 30 ∧ h < Bd ∧
  ∀ (n : Nat) (r : Addr) (H' : Hp), h < st f n → n ≤ 9000 → Same H H' → H r = none → H' r = some (.lst (rowV f n)) → Q (.ref r) H'
theorem scRowPast : FnScope ["factor", "heap", "row", "place"] ["factor", "heap"] (defScope sRowPast) := ⟨rfl, rfl, rfl, by decide +kernel, rfl, by decide +kernel, by decide +kernel⟩
theorem ok_row_past {f fA : Addr} {fd fdA : FuncData} (F : Fun K "row_past" "row_past" sRowPast f fd) (FA : Fun K "add_step" "add_step" sAddStep fA fdA) (bA : Binds K fdA ["factor", "row", "place"] []) (gA : mg "add_step" = some (.ref fA)) :
    FnOk P w K mg base CX0 2 f fd ["factor", "heap"] spRowPast := by
  have GA : FnOk P w K mg base CX0 1 fA fdA ["factor", "row", "place"] spAddStep := ok_add_step FA
  refine F.ok scRowPast (fun vs H Q E h => ?_) (fun cdv A outer s H vs Q E hr h => ?_)
  · obtain ⟨f, h, rfl, _⟩ := h
    rfl
  · obtain ⟨f, h, rfl, h1, h30, hB, q⟩ := h
    refine ⟨_, pss_cons (ps_set (i := 2) scRowPast.nd rfl (Or.inl rfl) (pe_lst (pa_cons pe_int pa_nil))) (pss_cons (ps_set (i := 3) scRowPast.nd rfl (Or.inl rfl) pe_int)
      (pss_cons (ps_while PassesOwn.never (pt_cmpR op_le (pe_ix ix_list (pv 2) (pe_un un_neg pe_int) (fun _ _ => rfl)) (pv 1) (nomark _))
        (pss_one (ps_set (i := 3) scRowPast.nd rfl (Or.inl rfl) (pe_call GA hr (by rfl) gA FA.kp bA .nil pass0 (pa_cons (pv 0) (pa_cons (pv 2) (pa_cons (pv 3) pa_nil)))))))
      (pss_one (ps_ret (pv 2))))), ?_⟩
    refine ⟨(by show 1 ≤ sizeLine; decide), fun r nr => ?_⟩
    refine ⟨fun m σ H' => ∃ (n : Nat) (p : Int), σ = [some (.int f), some (.int h), some (.ref r), some (.int p)] ∧ Same H H' ∧ H' r = some (.lst (rowV f n)) ∧ Place f n p ∧ n ≤ 9000 ∧ m = (h + 1 - st f n).toNat, ⟨_, 0, 0, rfl, same_upd nr, upd_same, place_zero f, Nat.zero_le _, rfl⟩, ?_⟩
    rintro m σ H' ⟨n, p, rfl, sm, hR, hp, hn, rfl⟩
    refine ⟨.ref r, rfl, 1, rfl, r, _, _, _, rfl, rfl, SqL.of hR, rowV_last f n, .int h, rfl, _, _, rfl, rfl, _, rfl, ?_⟩
    refine ite2 (fun c => ?_) (fun c => ?_)
    · have hz : st f n ≤ h := of_decide_eq_true c
      have hn2 := num_of h1 h30 hz hB
      have hlt := st_lt h1 n
      refine ⟨fun σ' H'' => ∃ p', σ' = [some (.int f), some (.int h), some (.ref r), some (.int p')] ∧ H'' = upd H' r (.lst (rowV f (n + 1))) ∧ Place f (n + 1) p', ?_, ?_⟩
      · rintro σ' H'' ⟨p', rfl, rfl, hp'⟩
        exact ⟨(h + 1 - st f (n + 1)).toNat, by omega, n + 1, p', rfl, same_new sm nr, upd_same, hp', by omega, rfl⟩
      · exact ⟨_, rfl, _, rfl, _, rfl, f, r, p, n, rfl, h1, h30, hR, hp, by omega, fun p' hp' => ⟨p', rfl, rfl, hp'⟩⟩
    · have hz : ¬ st f n ≤ h := of_decide_eq_false (Bool.eq_false_iff.mpr c)
      exact ⟨_, rfl, q n r H' (by omega) hn sm nr hR⟩
/-! ### sum_of -/
def spSumOf : Sp := fun vs H Q _ => ∃ (f h : Int), vs = [.int f, .int h] ∧ 1 ≤ f ∧ f ≤ 30 ∧ 0 ≤ h ∧ h < Bd ∧
  ∀ (r : Addr) (H' : Hp), (parts f h).length ≤ 9001 → Same H H' → H r = none → H' r = some (.lst ((parts f h).map V.int)) → Q (.ref r) H'
theorem scSumOf : FnScope ["factor", "heap", "parts", "left", "step"] ["factor", "heap"] (defScope sSumOf) := ⟨rfl, rfl, rfl, by decide +kernel, rfl, by decide +kernel, by decide +kernel⟩
theorem rev_item {f : Int} {n i : Nat} {x : V} (h : (rowV f n)[(rowV f n).length - 1 - i]? = some x) (hi : i < (rowV f n).length) : ∃ s, x = .int s ∧ (rowR f n).drop i = s :: (rowR f n).drop (i + 1) := by
  have hi' : i < (rowR f n).length := by rw [rowV_length] at hi; rw [rowR_len]; exact hi
  refine ⟨(rowR f n)[i], ?_, List.drop_eq_getElem_cons hi'⟩
  rw [rowV_length] at h
  unfold rowV row at h
  rw [List.getElem?_map, List.getElem?_reverse (by rw [rowR_len]; omega), rowR_len] at h
  have e : n + 1 - 1 - (n + 1 - 1 - i) = i := by rw [rowR_len] at hi'; omega
  rw [e, List.getElem?_eq_getElem hi'] at h
  exact (Option.some.inj h).symm
theorem ok_sum_of {f fR fC fN : Addr} {fd fdR fdC fdN : FuncData} (F : Fun K "sum_of" "sum_of" sSumOf f fd)
    (GR : FnOk P w K mg base CX0 2 fR fdR ["factor", "heap"] spRowPast) (kR : PySem.W.keepIn K (.ref fR) = true) (bR : Binds K fdR ["factor", "heap"] []) (gR : mg "row_past" = some (.ref fR))
    (GC : FnOk P w K mg base CX0 2 fC fdC ["factor"] spCkFactor) (kC : PySem.W.keepIn K (.ref fC) = true) (bC : Binds K fdC ["factor"] []) (gC : mg "check_factor" = some (.ref fC))
    (GN : FnOk P w K mg base CX0 2 fN fdN ["heap"] spCkHeap) (kN : PySem.W.keepIn K (.ref fN) = true) (bN : Binds K fdN ["heap"] []) (gN : mg "check_heap" = some (.ref fN)) (mr : mg "reversed" = none) :
    FnOk P w K mg base CX0 3 f fd ["factor", "heap"] spSumOf := by
  refine F.ok scSumOf (fun vs H Q E h => ?_) (fun cdv A outer s H vs Q E hr h => ?_)
  · obtain ⟨f, h, rfl, _⟩ := h
    rfl
  · obtain ⟨f, h, rfl, h1, h30, h0, hB, q⟩ := h
    refine ⟨_, pss_cons (ps_expr (pe_call GC hr (by rfl) gC kC bC .nil pass0 (pa_cons (pv 0) pa_nil))) (pss_cons (ps_expr (pe_call GN hr (by rfl) gN kN bN .nil pass0 (pa_cons (pv 1) pa_nil)))
      (pss_cons (ps_set (i := 2) scSumOf.nd rfl (Or.inl rfl) (pe_lst pa_nil)) (pss_cons (ps_set (i := 3) scSumOf.nd rfl (Or.inl rfl) (pv 1))
      (pss_cons (ps_for PassesOwn.never rfl (pi_reversed (by rfl) mr (pa_cons (pe_call GR hr (by rfl) gR kR bR .nil pass0 (pa_cons (pv 0) (pa_cons (pv 1) pa_nil))) pa_nil)) (pg_name (i := 4) scSumOf.nd rfl (Or.inl rfl))
        (pss_one (ps_if (pt_cmpR op_le (pv 4) (pv 3) (nomark _))
          (pss_cons (ps_expr (pe_bm PySem.F.plainAttrs_list PySem.F.slot_list_append PySem.F.type_list_append mt_append (pv 2) (pa_cons (pv 4) pa_nil)))
            (pss_one (ps_aug (i := 3) scSumOf.nd rfl (.inl rfl) (pv 4) ip_sub))) pss_nil)))
      (pss_one (ps_ret (pv 2))))))), ?_⟩
    refine ⟨_, rfl, f, rfl, h1, h30, ?_⟩
    refine ⟨_, rfl, h, rfl, h0, ?_⟩
    refine ⟨Nat.zero_le _, fun p np => ?_⟩
    refine ⟨_, rfl, ?_⟩
    refine ⟨_, rfl, _, rfl, f, h, rfl, h1, h30, hB, fun n r H1 hz hn sm1 nr1 hR => ?_⟩
    have nr : H r = none := (same_upd (o := .lst []) np).free nr1
    have hpr : r ≠ p := fun e => by rw [e, upd_same] at nr1; cases nr1
    have hp1 : H1 p = some (.lst []) := sm1 _ _ upd_same
    have sm0 : Same H H1 := (same_upd np).trans sm1
    refine ⟨r, _, rfl, SqL.of hR, RT.for_Itv (K := K) (a := r) (xs := rowV f n) (fun i σ H' => ∃ (acc : List Int) (l : Int) (v : Option V), σ = [some (.int f), some (.int h), some (.ref p), some (.int l), v] ∧ Same H H' ∧ H' r = some (.lst (rowV f n)) ∧
      H' p = some (.lst (acc.map V.int)) ∧ acc ++ gr ((rowR f n).drop i) l = gr (rowR f n) h ∧ acc.length ≤ i) ?_ ?_ ?_ ?_⟩
    · exact ⟨[], h, none, rfl, sm0, hR, hp1, rfl, Nat.le_refl _⟩
    · rintro i σ H' ⟨_, _, _, _, _, hR', _⟩
      exact SqL.of hR'
    · rintro i x σ H' hi hx ⟨acc, l, v, rfl, sm, hR', hp', eg, hl⟩
      obtain ⟨z, rfl, ed⟩ := rev_item hx hi
      rw [rowV_length] at hi
      refine ⟨.int z, rfl, .int l, rfl, z, l, rfl, rfl, _, rfl, ?_⟩
      rw [ed] at eg
      refine ite2 (fun c => ?_) (fun c => ?_)
      · have c' : z ≤ l := of_decide_eq_true c
        refine ⟨.ref p, rfl, .inl ⟨rfl, _, SqL.of hp'⟩, .int z, rfl, p, _, _, rfl, rfl, hp', ?_, ?_⟩
        · rw [List.length_map]
          exact small_line (by omega)
        · refine ⟨_, rfl, .int z, rfl, l, z, rfl, rfl, acc ++ [z], l - z, _, rfl, same_new sm np, ?_, ?_, ?_, ?_⟩
          · rw [upd_ne hpr]; exact hR'
          · rw [upd_same, List.map_append]; rfl
          · rw [gr_pos c'] at eg
            rw [← eg, List.append_assoc]; rfl
          · rw [List.length_append, List.length_singleton]; omega
      · have c' : ¬ z ≤ l := of_decide_eq_false (Bool.eq_false_iff.mpr c)
        refine ⟨acc, l, _, rfl, sm, hR', hp', ?_, by omega⟩
        rw [gr_neg c'] at eg
        exact eg
    · rintro σ H' ⟨acc, l, v, rfl, sm, hR', hp', eg, hl⟩
      have e : (rowR f n).drop (rowV f n).length = [] := List.drop_eq_nil_of_le (by rw [rowV_length, rowR_len]; exact Nat.le_refl _)
      rw [e] at eg
      have e2 : acc = parts f h := by
        rw [← parts_of h1 h0 hz, ← eg, gr_nil, List.append_nil]
      subst e2
      rw [rowV_length] at hl
      exact ⟨.ref p, rfl, q p H' (by omega) sm np hp'⟩
end
end TA
set_option Elab.async false
set_option linter.all false
set_option maxRecDepth 100000
set_option maxHeartbeats 4000000
namespace TA
open PySem PySem.Spec PyProof.Rows L2
/-! ### is_whole called from anywhere, at the library's level -/
theorem isw_body {P : Program} {w : World} {K : PySem.W.Frag} {mg : Str → Option Value} {base : Heap} (M : L2.Mod K mg base) (mt : mg "type" = none) (mi : mg "int" = none)
    {env : Env} (hs : env.scope = defScope sIsWhole) (hg : env.globals = mainGlobals) (hbl : env.builtins = builtinsNs)
    {A : Around} {s : Shared} {u : Value} {m : Int} {t : Tok} {T : String} {b : Bool} {mm : Str → Option Value} {Q : Flow → Shared → Prop} {E : Value → Shared → Prop}
    (bs : ∀ b o, base.get? b = some o → s.heap.get? b = some o)
    (ty : s.TypeIs u T) (nb : (Value.type T == Value.type "builtin_function_or_method") = false) (hb : (∃ n t', u = .int n t' ∧ T = "int" ∧ b = decide (m ≤ n)) ∨ (T ≠ "int" ∧ b = false))
    (ns : s.heap.Ns env.locals mm) (m1 : mm "value" = some u) (m2 : mm "least" = some (.int m t))
    (h : ∀ k, Q (.ret (.bool b)) { s with toks := k }) : wpAny (model P w) A (execs (defBody sIsWhole) env) Q E s := by
  have hk : env.scope.kind = .function := by rw [hs]; rfl
  have lv : ∀ {p : Pos} {Q' : Value → Shared → Prop} {E' : Value → Shared → Prop} {s' : Shared}, s'.heap.Ns env.locals mm → Q' u s' → wpAny (model P w) A (eval (.Name "value" p) env) Q' E' s' := fun hn q =>
    wpAny_Name (wpAny_loadName_local hk (by show env.scope.names.lookup _ = _; rw [hs]; rfl) hn m1 q) (by decide)
  have ll : ∀ {p : Pos} {Q' : Value → Shared → Prop} {E' : Value → Shared → Prop} {s' : Shared}, s'.heap.Ns env.locals mm → Q' (.int m t) s' → wpAny (model P w) A (eval (.Name "least" p) env) Q' E' s' := fun hn q =>
    wpAny_Name (wpAny_loadName_local hk (by show env.scope.names.lookup _ = _; rw [hs]; rfl) hn m2 q) (by decide)
  have lb : ∀ {x : Str} {p : Pos} {v : Value} {Q' : Value → Shared → Prop} {E' : Value → Shared → Prop} {s' : Shared}, (∀ b o, base.get? b = some o → s'.heap.get? b = some o) → (defScope sIsWhole).names.lookup x = some .globalImplicit → mg x = none → bootBuiltins x = some v → x ≠ "__name__" → (x == ("__debug__" : Str)) = false →
      Q' v s' → wpAny (model P w) A (eval (.Name x p) env) Q' E' s' := fun hbs hx hm hv hn hd q => by
    obtain ⟨mb, h1, h2⟩ := M.blt
    exact Calls.Name_function_global hk (by show env.scope.names.lookup _ = _; rw [hs]; exact hx) (Calls.loadGlobal_builtin (by rw [hg]; exact M.glob.keeps hbs) hm (by rw [hbl]; exact h1.keeps hbs) ((h2 _ hn).trans hv) q) hd
  refine wpAny_execs_cons (wpAny_Return_some (BoolOp_and ?_))
  refine wpAny_Compare1 (wpAny_Call_Name_kw (lb (v := .type "type") bs (by rfl) mt (by decide +kernel) (by decide) (by decide) ?_)) (nomark _)
  refine PyProof.Rows.callWith_type1 ?_ (by rfl) (by rfl)
  refine Calls.spliced_cons (lv ns ?_)
  refine Calls.spliced_nil (call_type_of ty nb ?_)
  refine lb (v := .type "int") bs (by rfl) mi (by decide +kernel) (by decide) (by decide) ?_
  refine wpAny_is_plain rfl ?_
  refine wpAny_truthy_bool ?_
  have etb : (Value.type T == Value.type "int") = decide (T = "int") := ty_beq _ _
  rcases hb with ⟨n, t', rfl, rfl, rfl⟩ | ⟨ne, rfl⟩
  · rw [etb, decide_eq_true rfl]
    refine BoolOp_one (wpAny_Compare1 (lv ns (ll ns ?_)) (nomark _))
    refine ge_int ?_
    exact h _
  · rw [etb, decide_eq_false ne]
    exact h _
theorem isw_call {P : Program} {w : World} {K : PySem.W.Frag} {mg : Str → Option Value} {base : Heap} {f : Addr} {fd : FuncData} (F : Fun K "is_whole" "is_whole" sIsWhole f fd) (M : L2.Mod K mg base) (mt : mg "type" = none) (mi : mg "int" = none)
    {A : Around} {s : Shared} {u : Value} {m : Int} {t : Tok} {T : String} {b : Bool} {Q : Value → Shared → Prop} {E : Value → Shared → Prop}
    (hdp : A.depth + 8 < recursionLimit)
    (bs : ∀ b o, base.get? b = some o → s.heap.get? b = some o)
    (nb : (Value.type T == Value.type "builtin_function_or_method") = false) (hb : (∃ n t', u = .int n t' ∧ T = "int" ∧ b = decide (m ≤ n)) ∨ (T ≠ "int" ∧ b = false))
    (hup : ∀ s' : Shared, (∀ b o, s.heap.get? b = some o → s'.heap.get? b = some o) → s'.TypeIs u T)
    (h : ∀ h' k, (∀ b o, s.heap.get? b = some o → h'.get? b = some o) → Q (.bool b) { s with heap := h', toks := k }) :
    wpAny (model P w) A (call (.ref f) [u, .int m t]) Q E s := by
  have FB := F.binds (ps := ["value", "least"]) fun _ _ _ _ _ _ us hl => match us, hl with | [_, _], _ => rfl
  obtain ⟨oc, od, kV, doc, pm, an, cdv, ct, osl, rfl, lk, hcd⟩ := F.ex
  have KX : K.In s.heap := M.kin.keeps bs
  have lim : s.heap.NoLimit := M.nolimit.keeps bs
  have S := scIsWhole
  have hkind : ∀ y ∈ (["value", "least"] : List Str).zip [u, Value.int m t], (defScope sIsWhole).names.lookup y.1 = some .local ∨ ((defScope sIsWhole).names.lookup y.1 = some .cell ∧ ((cellsFrom (s.heap.objs.size + 1) (defScope sIsWhole).names []).lookup y.1).isSome = true) := fun ⟨n, v⟩ hy => by
    rcases S.par n (List.of_mem_zip hy).1 with q | q
    · exact .inl q
    · exact .inr ⟨q, PySem.W.cellsFrom_some _ _ _ (.inl q)⟩
  refine wpAny_call (codeAny_call_function (by omega) (KX _ _ lk) rfl S.co S.gen rfl (PySem.W.codeRec_of KX hcd) (FB s [u, .int m t] KX rfl _ _ _ _ ?_))
  refine wpAny_newFunctionEnv_cells S.kind hkind fun env he s1 x => ?_
  have e1 : env.scope = defScope sIsWhole := by rw [he]; rfl
  have e2 : env.globals = mainGlobals := by rw [he]; rfl
  have e3 : env.builtins = builtinsNs := by rw [he]; rfl
  have e4 : env.kindOf "value" = some .local := by rw [he]; rfl
  have e5 : env.kindOf "least" = some .local := by rw [he]; rfl
  clear he
  refine ⟨lim.keeps x.toInCall.keep, codeAny_func ?_⟩
  obtain ⟨h1, tk, rfl, hk⟩ := x.done
  have ns := x.toInCall.ns
  refine isw_body M mt mi e1 e2 e3 (fun b o e => hk b o (bs b o e)) (hup _ hk) nb hb ns (bindL_get (P := ["value", "least"]) (i := 0) (by decide) rfl rfl e4) (bindL_get (P := ["value", "least"]) (i := 1) (by decide) rfl rfl e5) fun k => ?_
  exact h h1 k hk
end TA
set_option Elab.async false
set_option linter.all false
set_option maxRecDepth 100000
set_option maxHeartbeats 4000000
namespace TA
open PySem PySem.Spec PyProof.Rows L2
/-! ### all(is_whole(number, least) for number in e) -/
/-- v is whole from m on, or not: b -/
def WholeIs (K : PySem.W.Frag) (H : Hp) (m : Int) (v : V) (b : Bool) : Prop := ∃ T, TyB K H v T ∧ ((∃ n, v = .int n ∧ b = decide (m ≤ n)) ∨ (T ≠ "int" ∧ b = false))
abbrev gsc : Scope := { kind := .function, names := [((".0" : Str), NameKind.local), (("number" : Str), NameKind.local), (("least" : Str), NameKind.free), (("is_whole" : Str), NameKind.globalImplicit)], isGenerator := true, isCoroutine := false, more := [] }
abbrev isE (p1 p2 p3 p4 : Pos) : Expr := .Call (.Name "is_whole" p1) [.Name "number" p2, .Name "least" p3] [] p4
theorem typeIs_keep {s s' : Shared} {u : Value} {T : String} {P : Addr} {ps : Array Value} (h : s.TypeIs u T) (hP : s.heap.get? P = some { cls := .none, data := .fields ps })
    (k : ∀ b o, b ≠ P → s.heap.get? b = some o → s'.heap.get? b = some o) : s'.TypeIs u T := by
  cases u with
  | ref a =>
    obtain ⟨o, h1, h2⟩ := (show ∃ o, s.heap.get? a = some o ∧ o.cls = .type T from h)
    refine ⟨o, k a o (fun z => ?_) h1, h2⟩
    rw [z, hP] at h1
    cases h1
    cases h2
  | _ => exact h
section
variable {X : Cx} {pins : List (Addr × Obj)} {σ : L2.St} {H : Hp} {s : Shared}
def ReadyW (X : Cx) (pins : List (Addr × Obj)) (σ : L2.St) (H1 : Hp) (P : Addr) (bs : List Bool) (g : Addr) (s5 : Shared) : Prop :=
  ∃ (fp wr : List Addr) (G : Array GenState → Array GenState → Prop) (F : Nat → Value → Prop) (St : Nat → Shared → Prop),
    WalksS X.prog X.w X.A.in1 g fp wr G bs.length F St ∧ St 0 s5 ∧
    TruthOf X.prog X.w X.A.in1 F (fun j => bs.getD j false) ∧
    ∀ s', Moved wr G s5 s' → ∃ H2, GxR.Tabbed P H1 H2 ∧ Inv X pins σ H2 s'

theorem gen_lstW {c P f : Addr} {fd : FuncData} {iter : Expr} {px p1 p2 p3 p4 gpos : Pos} {te : TE} {k : Nat} {m : Int} {Q' : Value → Shared → Prop} {R : List Bool → Hp → Prop}
    (hr : Room (k + 2) X.A) (TB : GxR.TabB X.base X.mg c P) (hcode : X.env.code = .ref c) (hi : PE X iter te)
    (F : Fun X.K "is_whole" "is_whole" sIsWhole f fd) (gF : X.mg "is_whole" = some (.ref f)) (mt : X.mg "type" = none) (mi : X.mg "int" = none)
    (hN : X.N[1]? = some ("least" : Str)) (hc : X.env.kindOf "least" = some .cell) (hσ : σ[1]? = some (some (.int m)))
    (hs : ∀ v, genFold iter X.env v = pure v) (I : Inv X pins σ H s)
    (h : te σ H fun v H1 => ∃ (yl : Addr) (vs : List V) (bs : List Bool), v = .ref yl ∧ SqL X.K H1 yl vs ∧ bs.length = vs.length ∧ (∀ (i : Nat) (v : V) (b : Bool), vs[i]? = some v → bs[i]? = some b → WholeIs X.K H1 m v b) ∧ GxR.TabG H1 P ∧ R bs H1)
    (hQ : ∀ bs H1 g s5, R bs H1 → ReadyW X pins σ H1 P bs g s5 → Q' (.ref g) s5) :
    wpAny (model X.prog X.w) X.A (eval (.GeneratorExp (isE p1 p2 p3 p4) [⟨.Name "number" px, iter, [], 0⟩] gsc gpos) X.env) Q' X.xe s := by
  obtain ⟨cl0, hcl0⟩ := I.ok.has "least" (.inl hc)
  have S : GxR.GenS X.env gsc "number" := ⟨rfl, rfl, by decide, by decide, by decide, fun y hy e => by
    simp only [List.mem_cons, List.mem_nil_iff, or_false] at hy
    rcases hy with rfl | rfl | rfl | rfl
    · cases e
    · cases e
    · exact ⟨cl0, hcl0⟩
    · cases e⟩
  have ecl : cloFrom X.env.cells gsc.names [] = [(("least" : Str), cl0)] := by
    show [(("least" : Str), (X.env.cells.lookup ("least" : Str)).getD 0)] = _
    rw [hcl0]
    rfl
  refine wpAny_GeneratorExp_walksQD hr.hd S.co (closure_ok S.free) S.cell S.dot S.loc S.kind (by have := hr.dp; omega) ?_ hs
  refine thn (hi.run pins s σ H _ I h) fun xv s1 ⟨v, H1, I1, r1, q1⟩ => ?_
  obtain ⟨yl, vs, bs, rfl, hyl, hbl, hbs, ⟨ps, hP, ht⟩, q1⟩ := q1
  obtain rfl : xv = Value.ref yl := r1
  obtain ⟨its, rv, hl, hz⟩ := I1.list hyl
  have hIL := hl.isList
  have hlen : its.length = vs.length := by rw [← rv.length]
  have hat : ∀ (i : Nat) (v : Value), its.toArray[i]? = some v → ∃ (a : V), vs[i]? = some a ∧ RelV a v := fun i v hv => by
    have hv2 : its[i]? = some v := by simpa using hv
    have hi2 : i < its.length := (List.getElem?_eq_some_iff.mp hv2).1
    obtain ⟨a, ha⟩ : ∃ a, vs[i]? = some a := ⟨vs[i]'(by omega), List.getElem?_eq_getElem _⟩
    obtain ⟨u, hu, ru⟩ := rv.get ha
    rw [hv2] at hu
    cases hu
    exact ⟨a, ha, ru⟩
  -- least's cell
  obtain ⟨tk0, hcell⟩ : ∃ t, s1.heap.IsCell cl0 (some (.int m t)) := by
    obtain ⟨m0, _, hloc⟩ := I1.loc
    obtain ⟨u, ru, hk⟩ := hloc 1 "least" (.int m) hN hσ (.inr (.inl hc))
    obtain ⟨t, rfl⟩ := (show ∃ t, u = Value.int m t from ru)
    rcases hk with ⟨hk, _⟩ | ⟨_, c', hc', hi'⟩
    · rw [hc] at hk
      cases hk
    · rw [hcl0] at hc'
      cases hc'
      exact ⟨t, hi'⟩
  have hclP : cl0 ≠ P := fun z => by
    have := I1.freeC _ _ hcl0
    rw [z, hP] at this
    cases this
  refine wpAny_pyIter_list hIL ?_
  generalize ho : ({ cls := .type "list_iterator", data := .fields #[.ref yl, .int 0 0] } : Obj) = o
  have hitr : (s1.heap.push o).IsListIter s1.heap.objs.size yl 0 := by
    subst ho
    exact ⟨_, Heap.get?_push_size _ rfl, rfl, rfl⟩
  have hylt : yl < s1.heap.objs.size := by
    obtain ⟨_, e, _⟩ := _root_.id hIL
    exact Heap.lt_size e
  have hPs : s1.heap.get? P = some { cls := .none, data := .fields ps } := I1.hok P _ hP
  have hPlt : P < s1.heap.objs.size := Heap.lt_size hPs
  have hP2 : (s1.heap.push o).get? P = some { cls := .none, data := .fields ps } := Heap.get?_push_of_some _ hPs
  have cd : PySem.W.CodeHd (s1.heap.push o) c P := TB.code.keeps fun b u e => Heap.get?_push_of_some _ (I1.bk b u e)
  have lim2 : (s1.heap.push o).NoLimit := I1.nolimit.push o
  have cont : ∀ (code : Value) (h3 : Heap) (tk : Nat) (ps' : Array Value), Heap.ExtBut P (s1.heap.push o) h3 → (s1.heap.push o).objs.size ≤ h3.objs.size → h3.get? P = some { cls := .none, data := .fields ps' } → (∃ more, ps' = ps ++ more) → TriplesOk ps'.toList →
      wpAny (model X.prog X.w) X.A (builtinsFor X.env.globals X.env.builtins) (fun bi s₄ =>
        ∃ Ia fp wr n₀ Pf St₀ pz F, Value.ref s1.heap.objs.size = .ref Ia ∧ (∀ A' : Around, A'.handled = none → Walks X.prog X.w A' Ia fp wr n₀ Pf St₀) ∧ St₀ 0 s₄.heap ∧ (∀ b ∈ fp, b < s₄.heap.objs.size) ∧ s₄.heap.NoLimit ∧ cStatics ∉ wr ∧
          (∀ href : Heap, (∀ b o, s₄.heap.get? b = some o → href.get? b = some o) →
            QuietGenD X.prog X.w (genEnv gsc (cloFrom X.env.cells gsc.names []) s₄.heap.objs.size code bi X.env) "number" [] (isE p1 p2 p3 p4) (List.range s₄.heap.objs.size) wr Pf pz F href (X.A.depth + 1) (X.A.units + 8)) ∧
          (∀ a h₅ tk gs, gs.bare = true → s₄.heap.objs.size < a → h₅.objs.size = a + 1 → (∀ b o, s₄.heap.get? b = some o → h₅.get? b = some o) →
            WalksS X.prog X.w X.A.in4 a (a :: s₄.heap.objs.size :: List.range s₄.heap.objs.size) (s₄.heap.objs.size :: wr) (GenOnlyQ s₄.gens.size) (passing pz n₀ 0).length
              (fun j y => ∃ i, (passing pz n₀ 0)[j]? = some i ∧ F i y) (GenAt X.prog X.w X.A.in4 a s₄.gens.size s₄.heap.objs.size (List.range s₄.heap.objs.size) wr pz n₀ F) →
            GenAt X.prog X.w X.A.in4 a s₄.gens.size s₄.heap.objs.size (List.range s₄.heap.objs.size) wr pz n₀ F 0 { s₄ with gens := s₄.gens.push gs, toks := tk, heap := h₅ } →
            Q' (.ref a) { s₄ with gens := s₄.gens.push gs, toks := tk, heap := h₅ })) X.xe { s1 with heap := h3, toks := tk } := by
    intro code h3 tk ps' hx hsz hP3 hmore ht3
    obtain ⟨bm, ob, e1, e2, e3, e4, e5, e6, e7, e8⟩ := TB.bm
    have hcP : cStatics ≠ P := fun e => by
      obtain ⟨_, hns, _⟩ := I1.nolimit
      obtain ⟨o', es, ep, ho, hd, _⟩ := hns
      rw [e, hPs] at ho
      cases ho
      cases hd
    have hcl : cStatics < s1.heap.objs.size := let ⟨_, hns, _⟩ := I1.nolimit; hns.lt
    have sz2 : (s1.heap.push o).objs.size = s1.heap.objs.size + 1 := Heap.size_push ..
    have keep3 : ∀ b u, b ≠ P → s1.heap.get? b = some u → h3.get? b = some u := fun b u hb e => hx b u hb (Heap.get?_push_of_some _ e)
    refine wpAny_builtinsFor (m := X.mg) (by rw [I1.ok.glob]; exact ((I1.mod.glob.keeps I1.bk).push o).extBut hx TB.gP) e1 e2 (keep3 _ _ e4 (I1.bk _ _ e5)) e6 e7 e8 ?_
    have hylP : yl ≠ P := fun z => by
      obtain ⟨_, e, hc1, _, hd1⟩ := _root_.id hIL
      rw [z, hPs] at e
      cases e
      cases hd1
    have hIL3 : h3.IsList yl its.toArray := by
      obtain ⟨ob, e, r⟩ := _root_.id hIL
      exact ⟨ob, keep3 _ _ hylP e, r⟩
    have hItr3 : h3.IsListIter s1.heap.objs.size yl 0 := hitr.at fun u e => hx _ u (Nat.ne_of_gt hPlt) e
    refine ⟨s1.heap.objs.size, [s1.heap.objs.size, yl], [s1.heap.objs.size], its.toArray.size, (fun i v => its.toArray[i]? = some v), (fun i h => h.IsListIter s1.heap.objs.size yl i ∧ h.IsList yl its.toArray), (fun _ => true),
      (fun i y => y = .bool (bs.getD i false)), rfl, (fun A' hA => Walks.list hA _ _ (Nat.ne_of_lt hylt) _), ⟨hItr3, hIL3⟩, ?_, lim2.extBut hx hcP, ?_, ?_, ?_⟩
    · intro b hb
      rcases List.mem_cons.mp hb with z | z
      · rw [z]
        show s1.heap.objs.size < h3.objs.size
        omega
      · rcases List.mem_cons.mp z with z | z
        · rw [z]
          have e9 : s1.heap.objs.size ≤ h3.objs.size := by omega
          exact Nat.lt_of_lt_of_le hylt e9
        · cases z
    · intro z
      rcases List.mem_cons.mp z with z | z
      · exact Nat.ne_of_lt hcl z
      · cases z
    · intro href hhref
      refine ⟨fun A' E' i v s₂ m₂ hA hD hU hPv hn hm hk => ?_, fun A' E' i v s₂ m₂ hA hD hU hPv hp hn hm hk => ?_⟩
      · simp only [List.forIn_nil]
        exact wpAny_pure ⟨rfl, GxR.keeps_refl _⟩
      · obtain ⟨a, ha, ra⟩ := hat i v hPv
        have hilt : i < bs.length := by rw [hbl]; exact (List.getElem?_eq_some_iff.mp ha).1
        have hbi : bs[i]? = some (bs.getD i false) := by
          rw [List.getD_eq_getElem?_getD, List.getElem?_eq_getElem hilt]
          rfl
        obtain ⟨T, hT, hw⟩ := hbs i a _ ha hbi
        -- what stood at s1 stands at s₂
        have old : ∀ b u, b ≠ P → s1.heap.get? b = some u → s₂.heap.get? b = some u := fun b u hb e => by
          have h9 := keep3 b u hb e
          have hb1 : b < s1.heap.objs.size := Heap.lt_size e
          refine hk b (List.mem_range.mpr (Heap.lt_size h9)) (fun z => ?_) u (hhref b u h9)
          rcases List.mem_cons.mp z with z | z
          · rw [z] at hb1
            exact Nat.lt_irrefl _ hb1
          · cases z
        have bsB : ∀ b u, X.base.get? b = some u → s₂.heap.get? b = some u := fun b u e => by
          obtain ⟨h1, h2⟩ := I1.bs b u e
          exact old b u (fun z => by rw [z, hP] at h2; cases h2) h1
        have tyS : s1.TypeIs v T := hT.is I1 ra
        have hcell2 : s₂.heap.IsCell cl0 (some (.int m tk0)) := by
          obtain ⟨oc, h1, h2⟩ := hcell
          exact ⟨oc, old _ _ hclP h1, h2⟩
        have hkE : ∀ {cl : List (Str × Addr)} {C : Addr} {code : Value} {bi : Addr}, (genEnv gsc cl C code bi X.env).scope.kind = .function := rfl
        refine wpAny_Call_Name_kw (Calls.Name_function_global rfl (by rfl) (Calls.loadGlobal_global (mg := X.mg) (by
          show s₂.heap.Ns X.env.globals X.mg
          rw [I1.ok.glob]
          exact I1.mod.glob.keeps bsB) gF ?_) (by decide))
        refine PySem.W.callWith_K (h₀ := X.base) I1.ok.mod.kin F.kp ?_ (by rfl) (by rfl)
        refine Calls.spliced_cons (wpAny_Name (wpAny_loadName_local rfl (by rfl) hn hm ?_) (by decide))
        refine Calls.spliced_cons (wpAny_Name (wpAny_loadName_free (c := cl0) rfl (by rfl) (by
          show (cloFrom X.env.cells gsc.names []).lookup ("least" : Str) = _
          rw [ecl]
          rfl) hcell2 ?_ (by decide)) (by decide))
        refine Calls.spliced_nil ⟨I1.ok.mod.kin.keeps bsB, ?_⟩
        refine isw_call F I1.ok.mod mt mi (by have := hr.dp; omega) bsB hT.nb ?_ (fun s' k9 => typeIs_keep tyS hPs fun b u hb e => k9 b u (old b u hb e)) fun h' k9 kk => ⟨rfl, h', k9, rfl, kk⟩
        rcases hw with ⟨n, rfl, eb⟩ | ⟨ne, eb⟩
        · obtain ⟨t', rfl⟩ := (show ∃ t', v = Value.int n t' from ra)
          cases hT
          exact .inl ⟨n, t', rfl, rfl, eb⟩
        · exact .inr ⟨ne, eb⟩
    · intro g h5 tk5 gs hgb hag hsz5 hk5 W5 hgat
      simp only [GxR.passing_true, List.length_range] at W5
      have hn5 : its.toArray.size = bs.length := by rw [List.size_toArray, hlen, hbl]
      rw [hn5] at W5 hgat
      refine hQ bs H1 g _ q1 ⟨_, _, _, _, _, W5.in4_1, hgat, ?_, fun s' hm => ?_⟩
      · intro j y sj Qj Ej hy hQj
        obtain ⟨i, hij, rfl⟩ := hy
        obtain ⟨hj, ej⟩ := List.getElem?_eq_some_iff.mp hij
        rw [List.getElem_range] at ej
        subst ej
        exact wpAny_truthy_bool hQj
      · obtain ⟨more, em⟩ := hmore
        have nwr : ∀ b u, s1.heap.get? b = some u → b ∉ h3.objs.size :: [s1.heap.objs.size] := fun b u e hb => by
          have hl := Heap.lt_size e
          rcases List.mem_cons.mp hb with z | z
          · rw [z] at hl
            have h9 : (h3.objs.size : Nat) < s1.heap.objs.size := hl
            omega
          · rcases List.mem_cons.mp z with z | z
            · rw [z] at hl
              exact Nat.lt_irrefl _ hl
            · cases z
        have J := GxR.inv_tab (more := more) (h' := s'.heap) (g' := s'.gens) (d' := s'.drawn) (t' := s'.toks) I1 hP (fun b u hb e => hm.heap b u (nwr b u e) (hk5 b u (keep3 b u hb e)))
          (by rw [← em]; exact hm.heap P _ (nwr P _ hPs) (hk5 P _ hP3)) (AllBare.movedS (I1.bare.push hgb) hm)
        rw [GxR.sh_eta s1 s' hm.os] at J
        refine ⟨upd H1 P (.tbl (ps ++ more)), ⟨⟨ps ++ more, upd_same, by rw [← em]; exact ht3⟩, fun b hb => upd_ne hb⟩, J⟩
  refine ⟨lim2, ?_⟩
  cases hf : codeAmong gpos ps.toList with
  | none =>
    refine wpAny_genexprCodeX hcode (cd.code hP2 ht) (cd.tab hP2) hf fun c' h' tk hx hge hlt hco' _ htab' _ => ?_
    obtain ⟨o1, vs, f1, tf, fl, tg, inF, tx, tt, op, _, _, _, _, _, _, _, _, _, htr, _⟩ := hco'
    exact cont _ h' tk _ hx (Nat.le_trans hge (Nat.le_of_lt hlt)) htab'.2 ⟨_, rfl⟩ htr
  | some cv =>
    refine wpAny_genexprCode_hit hcode (cd.code hP2 ht) hf ?_
    exact cont cv (s1.heap.push o) s1.toks ps (Heap.ExtBut.refl _ _) (Nat.le_refl _) hP2 ⟨#[], by simp⟩ ht

/-- all(is_whole(number, least) for number in e); behind it the def's table may have grown -/
def tAllW (K : PySem.W.Frag) (P : Addr) (te : TE) : TE := fun σ H Q => ∃ m, σ[1]? = some (some (.int m)) ∧ te σ H fun v H1 => ∃ (yl : Addr) (vs : List V) (bs : List Bool), v = .ref yl ∧ SqL K H1 yl vs ∧ bs.length = vs.length ∧
  (∀ (i : Nat) (v : V) (b : Bool), vs[i]? = some v → bs[i]? = some b → WholeIs K H1 m v b) ∧ GxR.TabG H1 P ∧ ∀ H2, GxR.Tabbed P H1 H2 → Q (.bl (bs.all id)) H2
theorem all_range (bs : List Bool) : (List.range bs.length).all (fun j => bs.getD j false) = bs.all id := by
  rw [Bool.eq_iff_iff, List.all_eq_true, List.all_eq_true]
  constructor
  · intro h b hb
    obtain ⟨j, hj, e⟩ := List.getElem_of_mem hb
    have q := h j (List.mem_range.mpr hj)
    rw [List.getD_eq_getElem?_getD, List.getElem?_eq_getElem hj, e] at q
    exact q
  · intro h j hj
    have hj' := List.mem_range.mp hj
    show bs.getD j false = true
    rw [List.getD_eq_getElem?_getD, List.getElem?_eq_getElem hj']
    exact h _ (List.getElem_mem hj')
theorem pe_allW {c P f : Addr} {fd : FuncData} {iter : Expr} {px p1 p2 p3 p4 p pos gpos : Pos} {te : TE} {k : Nat}
    (hr : Room (k + 2) X.A) (hg : Gl X "all") (hm : X.mg "all" = none) (TB : GxR.TabB X.base X.mg c P) (hcode : X.env.code = .ref c) (hi : PE X iter te)
    (F : Fun X.K "is_whole" "is_whole" sIsWhole f fd) (gF : X.mg "is_whole" = some (.ref f)) (mt : X.mg "type" = none) (mi : X.mg "int" = none)
    (hN : X.N[1]? = some ("least" : Str)) (hc : X.env.kindOf "least" = some .cell)
    (hs : ∀ v, genFold iter X.env v = pure v) :
    PE X (.Call (.Name "all" p) [.GeneratorExp (isE p1 p2 p3 p4) [⟨.Name "number" px, iter, [], 0⟩] gsc gpos] [] pos) (tAllW X.K P te) := by
  have he : starEach [.GeneratorExp (isE p1 p2 p3 p4) [⟨.Name "number" px, iter, [], 0⟩] gsc gpos] X.env = (false, eval (.GeneratorExp (isE p1 p2 p3 p4) [⟨.Name "number" px, iter, [], 0⟩] gsc gpos) X.env) :: starEach [] X.env := by rfl
  refine ⟨fun pins s σ H Q I h => ?_⟩
  obtain ⟨m, hσ, h⟩ := h
  refine wpAny_Call_Name_kw (ld_blt (u := .builtin "all") I hg hm (by decide +kernel) ?_)
  refine PyProof.Rows.callWith_builtin1 ?_ he (by rfl)
  rw [he]
  show wpAny _ _ (spliced ((false, eval (.GeneratorExp (isE p1 p2 p3 p4) [⟨.Name "number" px, iter, [], 0⟩] gsc gpos) X.env) :: backTo pos (starEach [] X.env))) _ _ s
  refine Calls.spliced_cons (gen_lstW (R := fun bs H1 => ∀ H2, GxR.Tabbed P H1 H2 → Q (.bl (bs.all id)) H2) hr TB hcode hi F gF mt mi hN hc hσ hs I h fun bs H1 g s5 hR hG => ?_)
  obtain ⟨fp, wr, G, F', St, W, hst, htr, hI⟩ := hG
  refine Calls.spliced_nil ?_
  refine call_all_walkS (W.self 0 _ _ _ hst ⟨g, fp, wr, G, _, F', St, _, rfl, W, hst, htr, fun s' hmv => ?_⟩)
  obtain ⟨H2, hT, J⟩ := hI s' hmv
  refine ⟨.bl _, H2, J, rfl, ?_⟩
  rw [all_range bs]
  exact hR H2 hT
end
end TA
set_option Elab.async false
set_option linter.all false
set_option maxRecDepth 100000
set_option maxHeartbeats 4000000
namespace TA
open PySem PySem.Spec PyProof.Rows L2
/-! ### what was held is held, tables may have grown -/
def isTbl : HO → Bool
  | .tbl _ => true
  | _ => false
def Sm (H H' : Hp) : Prop := (∀ b o, isTbl o = false → H b = some o → H' b = some o) ∧ ∀ b ps, H b = some (.tbl ps) → ∃ ps', H' b = some (.tbl ps') ∧ (TriplesOk ps.toList → TriplesOk ps'.toList)
theorem Sm.refl (H : Hp) : Sm H H := ⟨fun _ _ _ h => h, fun _ ps h => ⟨ps, h, fun z => z⟩⟩
theorem Sm.trans {H H1 H2 : Hp} (a : Sm H H1) (b : Sm H1 H2) : Sm H H2 := ⟨fun c o n h => b.1 c o n (a.1 c o n h), fun c ps h => by
  obtain ⟨p1, h1, t1⟩ := a.2 c ps h
  obtain ⟨p2, h2, t2⟩ := b.2 c p1 h1
  exact ⟨p2, h2, fun z => t2 (t1 z)⟩⟩
theorem Sm.of {H H' : Hp} (a : Same H H') : Sm H H' := ⟨fun b o _ h => a b o h, fun b ps h => ⟨ps, a b _ h, fun z => z⟩⟩
theorem Sm.free {H H' : Hp} (e : Sm H H') {l : Addr} (h : H' l = Option.none) : H l = Option.none := by
  cases q : H l with
  | none => rfl
  | some o =>
    cases hb : isTbl o with
    | false =>
      rw [e.1 l o hb q] at h
      cases h
    | true =>
      cases o with
      | tbl ps =>
        obtain ⟨p1, h1, _⟩ := e.2 l ps q
        rw [h1] at h
        cases h
      | _ => cases hb
theorem Sm.lst {H H' : Hp} (e : Sm H H') {a : Addr} {xs : List V} (h : H a = some (.lst xs)) : H' a = some (.lst xs) := e.1 a _ rfl h
theorem Sm.tup {H H' : Hp} (e : Sm H H') {a : Addr} {xs : List V} (h : H a = some (.tup xs)) : H' a = some (.tup xs) := e.1 a _ rfl h
theorem Sm.seq {K : PySem.W.Frag} {H H' : Hp} {a : Addr} {xs : List V} (e : Sm H H') (h : SqL K H a xs) : SqL K H' a xs := by
  rcases h with (h | ⟨o, h⟩) | h
  · exact .inl (.inl (e.1 _ _ rfl h))
  · exact .inl (.inr ⟨o, e.1 _ _ rfl h⟩)
  · exact .inr h
theorem Sm.seqT {K : PySem.W.Frag} {H H' : Hp} {a : Addr} {xs : List V} (e : Sm H H') (h : SqT K H a xs) : SqT K H' a xs := by
  rcases h with (h | ⟨o, h⟩) | h
  · exact .inl (.inl (e.1 _ _ rfl h))
  · exact .inl (.inr ⟨o, e.1 _ _ rfl h⟩)
  · exact .inr h
theorem Sm.tab {H H' : Hp} (e : Sm H H') {P : Addr} (h : GxR.TabG H P) : GxR.TabG H' P := by
  obtain ⟨ps, h1, h2⟩ := h
  obtain ⟨p1, h3, h4⟩ := e.2 P ps h1
  exact ⟨p1, h3, h4 h2⟩
theorem Sm.tabbed {H H' : Hp} {P : Addr} (h0 : GxR.TabG H P) (h : GxR.Tabbed P H H') : Sm H H' := by
  obtain ⟨ps, e0, _⟩ := h0
  obtain ⟨⟨p1, e1, t1⟩, k⟩ := h
  refine ⟨fun b o n hb => ?_, fun b q hb => ?_⟩
  · rw [k b (fun z => by rw [z, e0] at hb; cases hb; cases n)]
    exact hb
  · by_cases z : b = P
    · rw [z] at hb ⊢
      exact ⟨p1, e1, fun _ => t1⟩
    · exact ⟨q, by rw [k b z]; exact hb, fun y => y⟩
theorem Sm.new {H H' : Hp} {p : Addr} {o : HO} (s : Sm H H') (h : H p = none) : Sm H (upd H' p o) := ⟨fun b x n e => by
  rw [upd_ne (ne_of_none e h)]
  exact s.1 b x n e, fun b ps e => by
  rw [upd_ne (ne_of_none e h)]
  exact s.2 b ps e⟩
theorem Sm.upd {H : Hp} {p : Addr} {o : HO} (h : H p = none) : Sm H (upd H p o) := Sm.new (Sm.refl H) h
theorem Sm.dK {H H' : Hp} (e : Sm H H') {a : Addr} {xs} (h : H a = some (.dK xs)) : H' a = some (.dK xs) := e.1 a _ rfl h
theorem Sm.tyB {K : PySem.W.Frag} {H H' : Hp} {v : V} {T : String} (e : Sm H H') (h : TyB K H v T) : TyB K H' v T := by
  cases h with
  | non => exact .non
  | bl b => exact .bl b
  | int i => exact .int i
  | str x => exact .str x
  | byt b => exact .byt b
  | lst h => exact .lst (e.seq h)
  | tup h => exact .tup (e.seqT h)
  | dK h => exact .dK (e.dK h)
/-! ### a def whose code object is known -/
structure FunC (K : PySem.W.Frag) (x qual : Str) (st : Stmt) (f : Addr) (fd : FuncData) (c : Addr) : Prop where
  ex : ∃ (oc : Value) (od : Option Addr) (kV doc pm : Value) (an : Option Addr) (ct : Value) (osl : Array (Option Value)),
    fd = PySem.W.fnOf x qual (defArgs st) (defBody st) (defScope st) .none kV doc pm an (.ref c) ct ∧ K.lookup f = some ⟨oc, od, .func fd, osl⟩ ∧ PySem.W.codeIn K (.ref c) qual = true
  kp : PySem.W.keepIn K (.ref f) = true
theorem FunC.fn {K : PySem.W.Frag} {x qual : Str} {st : Stmt} {f : Addr} {fd : FuncData} {c : Addr} (F : FunC K x qual st f fd c) : Fun K x qual st f fd := by
  obtain ⟨oc, od, kV, doc, pm, an, ct, osl, h⟩ := F.ex
  exact ⟨⟨oc, od, kV, doc, pm, an, .ref c, ct, osl, h⟩, F.kp⟩
theorem FunC.ok {P : Program} {w : World} {K : PySem.W.Frag} {mg : Str → Option Value} {base : Heap} {x qual : Str} {st : Stmt} {f c : Addr} {fd : FuncData} {N ps : List Str} {k : Nat} {sp : Sp} (F : FunC K x qual st f fd c) (S : FnScope N ps (defScope st)) (len : ∀ vs H Q E, sp vs H Q E → vs.length = ps.length)
    (hbody : ∀ (A : Around) (outer : List Env) (s : Shared) (H : Hp) (vs : List V) (Q : VK) (E : XK), Room k (A.deeper (envOfC qual (defScope st) s.heap.objs.size f (.ref c))) → sp vs H Q E →
      ∃ t, PSs (cxOf CX0 P w K mg base N qual (defScope st) f (.ref c) A outer s H E).nox (defBody st) t ∧ t { nx := fun _ H' => Q .non H', rt := Q } (start N vs) H) : FnOk P w K mg base CX0 (k + 1) f fd ps sp := by
  obtain ⟨oc, od, kV, doc, pm, an, ct, osl, rfl, lk, hcd⟩ := F.ex
  refine fn_of lk hcd S len fun A outer s H vs Q E hr hsp => ?_
  obtain ⟨t, h, q⟩ := hbody A outer s H vs Q E hr hsp
  exact ⟨t, h.nox, q⟩
section
variable {P : Program} {w : World} {K : PySem.W.Frag} {mg : Str → Option Value} {base : Heap}
/-! ### is_whole_list -/
def spIsWholeList (K : PySem.W.Frag) (T : Addr) : Sp := fun vs H Q _ => ∃ v m, vs = [v, .int m] ∧ GxR.TabG H T ∧ ((∃ ty, TyB K H v ty ∧ ty ≠ "list" ∧ Q (.bl false) H) ∨
  ∃ (a : Addr) (xs : List V) (bs : List Bool), v = .ref a ∧ SqL K H a xs ∧ bs.length = xs.length ∧ (∀ (i : Nat) (y : V) (b : Bool), xs[i]? = some y → bs[i]? = some b → WholeIs K H m y b) ∧ ∀ H', GxR.Tabbed T H H' → Q (.bl (bs.all id)) H')
theorem scIsWholeList : FnScope ["numbers", "least"] ["numbers", "least"] (defScope sIsWholeList) := ⟨rfl, rfl, rfl, by decide +kernel, rfl, by decide +kernel, by decide +kernel⟩
theorem ok_is_whole_list {f c T fW : Addr} {fd fdW : FuncData} (F : FunC K "is_whole_list" "is_whole_list" sIsWholeList f fd c) (TB : GxR.TabB base mg c T) (FW : Fun K "is_whole" "is_whole" sIsWhole fW fdW) (gW : mg "is_whole" = some (.ref fW))
    (mt : mg "type" = none) (mi : mg "int" = none) (ml : mg "list" = none) (ma : mg "all" = none) :
    FnOk P w K mg base CX0 3 f fd ["numbers", "least"] (spIsWholeList K T) := by
  refine F.ok scIsWholeList (fun vs H Q E h => ?_) (fun A outer s H vs Q E hr h => ?_)
  · obtain ⟨v, m, rfl, _⟩ := h
    rfl
  · obtain ⟨v, m, rfl, hT, h⟩ := h
    refine ⟨_, pss_cons (ps_if (pt_cmpR op_isNotTy (pe_callTy call_type1 (by rfl) mt (by decide +kernel) (pa_cons (pv 0) pa_nil)) (pe_bltn (v := .ty "list") (by rfl) ml (by decide +kernel) rfl) (nomark _)) (pss_one (ps_ret pe_bl)) pss_nil)
      (pss_one (ps_ret (pe_allW (k := 0) hr (by rfl) ma TB rfl (pv 0) FW gW mt mi rfl rfl (fun _ => rfl)))), ?_⟩
    rcases h with ⟨ty, hty, ne, q⟩ | ⟨a, xs, bs, rfl, hL, hlen, hbs, q⟩
    · refine ⟨v, rfl, v, ty, rfl, hty, ty, "list", rfl, rfl, _, rfl, ?_⟩
      rw [decide_eq_false ne]
      exact iteT q
    · refine ⟨_, rfl, _, "list", rfl, .lst hL, _, _, rfl, rfl, _, rfl, ?_⟩
      exact iteF ⟨m, rfl, _, rfl, a, xs, bs, rfl, hL, hlen, hbs, hT, q⟩
/-- of ints -/
abbrev wlb (m : Int) (ns : List Int) : List Bool := ns.map fun n => decide (m ≤ n)
theorem wl_len {m : Int} {ns : List Int} : (wlb m ns).length = (ns.map V.int).length := by rw [List.length_map, List.length_map]
theorem wl_each {K : PySem.W.Frag} {H : Hp} {m : Int} {ns : List Int} : ∀ (i : Nat) (y : V) (b : Bool), (ns.map V.int)[i]? = some y → (wlb m ns)[i]? = some b → WholeIs K H m y b := fun i y b hy hb => by
  obtain ⟨u, hu, rfl⟩ := item_of hy
  rw [List.getElem?_map, hu] at hb
  cases hb
  exact ⟨"int", .int u, .inl ⟨u, rfl, rfl⟩⟩
theorem wl_all {m : Int} {ns : List Int} : (wlb m ns).all id = ns.all fun n => decide (m ≤ n) := by
  rw [List.all_map]
  rfl
theorem wl_true {m : Int} {ns : List Int} (h : ∀ n ∈ ns, m ≤ n) : (wlb m ns).all id = true := by
  rw [wl_all]
  exact List.all_eq_true.mpr fun n hn => decide_eq_true (h n hn)
end
end TA
set_option Elab.async false
set_option linter.all false
set_option maxRecDepth 100000
set_option maxHeartbeats 4000000
namespace TA
open PySem PySem.Spec PyProof.Rows L2
/-- the sum's last part is more than the limit, or there is none -/
def lostB (ns : List Int) (l : Int) : Bool := match ns.getLast? with
  | none => true
  | some z => decide (l < z)
theorem lostB_nil (l : Int) : lostB [] l = true := rfl
theorem lostB_snoc (ns : List Int) (z l : Int) : lostB (ns ++ [z]) l = decide (l < z) := by
  unfold lostB
  rw [List.getLast?_append]
  rfl
theorem cases_last (ns : List Int) : ns = [] ∨ ∃ m z, ns = m ++ [z] := by
  rcases List.eq_nil_or_concat ns with h | ⟨m, z, h⟩
  · exact .inl h
  · exact .inr ⟨m, z, by rw [h, List.concat_eq_append]⟩
/-- a class of one field -/
structure One (K : PySem.W.Frag) (mg : Str → Option Value) (nm fld : Str) (C fI : Addr) : Prop where
  cl : Cls K C
  nF : NoAttr K C fld
  mgC : mg nm = some (.ref C)
  mkC : Mk K C fI
abbrev lostF (a : Addr) : List (Str × V) := [(("parts" : Str), V.ref a)]
abbrev wonF (t : Int) : List (Str × V) := [(("taking" : Str), V.int t)]
section
variable {P : Program} {w : World} {K : PySem.W.Frag} {mg : Str → Option Value} {base : Heap}
/-! ### is_lost -/
def spIsLost (K : PySem.W.Frag) : Sp := fun vs H Q _ => ∃ (a : Addr) (ns : List Int) (l : Int), vs = [.ref a, .int l] ∧ SqL K H a (ns.map V.int) ∧ Q (.bl (lostB ns l)) H
theorem scIsLost : FnScope ["parts", "limit"] ["parts", "limit"] (defScope sIsLost) := ⟨rfl, rfl, rfl, by decide +kernel, rfl, by decide +kernel, by decide +kernel⟩
theorem ok_is_lost {f : Addr} {fd : FuncData} (F : Fun K "is_lost" "is_lost" sIsLost f fd) : FnOk P w K mg base CX0 1 f fd ["parts", "limit"] (spIsLost K) := by
  refine F.ok scIsLost (fun vs H Q E h => ?_) (fun cdv A outer s H vs Q E hr h => ?_)
  · obtain ⟨a, ns, l, rfl, _⟩ := h
    rfl
  · obtain ⟨a, ns, l, rfl, hL, q⟩ := h
    refine ⟨_, pss_one (ps_ret (pe_or (pe_notT (pv 0)) (pe_one (pe_cmpR op_gt (pe_ix ix_list (pv 0) (pe_un un_neg pe_int) (fun _ _ => rfl)) (pv 1) (nomark _))))), ?_⟩
    refine ⟨_, rfl, _, .inl ⟨_, hL, rfl⟩, _, rfl, ?_⟩
    rcases cases_last ns with rfl | ⟨m, z, rfl⟩
    · exact iteT q
    · have e : ((m ++ [z]).map V.int).isEmpty = false := by
        rw [List.map_append, List.isEmpty_eq_false_iff]
        simp
      rw [e]
      refine iteF ⟨_, rfl, 1, rfl, a, _, _, _, rfl, rfl, hL, vlast rfl, _, rfl, _, _, rfl, rfl, ?_⟩
      rw [lostB_snoc] at q
      exact q
/-! ### Lost(parts), Won(taking) -/
def spLostInit (K : PySem.W.Frag) (C : Addr) : Sp := fun vs H Q _ => ∃ (p dx a : Addr) (ns : List V), vs = [.ref p, .ref a] ∧ SqL K H a ns ∧ H p = some (.ins C dx []) ∧ ∀ l, H l = none → Q .non (upd (upd H l (.lst ns)) p (.ins C dx (lostF l)))
theorem scLostInit : FnScope ["self", "parts"] ["self", "parts"] (defScope sLostInit) := ⟨rfl, rfl, rfl, by decide +kernel, rfl, by decide +kernel, by decide +kernel⟩
theorem ok_lost_init {f C : Addr} {fd : FuncData} (F : Fun K "__init__" "Lost.__init__" sLostInit f fd) (O : One K mg "Lost" "parts" C f) (ml : mg "list" = none) : FnOk P w K mg base CX0 1 f fd ["self", "parts"] (spLostInit K C) := by
  refine F.ok scLostInit (fun vs H Q E h => ?_) (fun cdv A outer s H vs Q E hr h => ?_)
  · obtain ⟨p, dx, a, ns, rfl, _⟩ := h
    rfl
  · obtain ⟨p, dx, a, ns, rfl, hL, hp, q⟩ := h
    refine ⟨_, pss_one (ps_fld (pv 0) (pe_callTy call_list_of (by rfl) ml (by decide +kernel) (pa_cons (pv 1) pa_nil)) rfl), ?_⟩
    refine ⟨_, rfl, a, _, rfl, .inl hL, fun l nl => ?_⟩
    have npl : p ≠ l := ne_of_none hp nl
    exact ⟨_, rfl, p, C, dx, [], rfl, by rw [upd_ne npl]; exact hp, O.cl, O.nF, by show 0 < 1000; decide, q l nl⟩
def spWonInit (C : Addr) : Sp := fun vs H Q _ => ∃ (p dx : Addr) (t : Int), vs = [.ref p, .int t] ∧ H p = some (.ins C dx []) ∧ Q .non (upd H p (.ins C dx (wonF t)))
theorem scWonInit : FnScope ["self", "taking"] ["self", "taking"] (defScope sWonInit) := ⟨rfl, rfl, rfl, by decide +kernel, rfl, by decide +kernel, by decide +kernel⟩
theorem ok_won_init {f C : Addr} {fd : FuncData} (F : Fun K "__init__" "Won.__init__" sWonInit f fd) (O : One K mg "Won" "taking" C f) : FnOk P w K mg base CX0 1 f fd ["self", "taking"] (spWonInit C) := by
  refine F.ok scWonInit (fun vs H Q E h => ?_) (fun cdv A outer s H vs Q E hr h => ?_)
  · obtain ⟨p, dx, t, rfl, _⟩ := h
    rfl
  · obtain ⟨p, dx, t, rfl, hp, q⟩ := h
    exact ⟨_, pss_one (ps_fld (pv 0) (pv 1) rfl), _, rfl, _, rfl, p, C, dx, [], rfl, hp, O.cl, O.nF, by show 0 < 1000; decide, q⟩
/-! ### left_by -/
def spLeftBy : Sp := fun vs H Q _ => ∃ (f h t : Int), vs = [.int f, .int h, .int t] ∧ 1 ≤ f ∧ f ≤ 30 ∧ ∀ p, H p = none → Q (.ref p) (upd H p (.tup [.int (h - t), .int (f * t)]))
theorem scLeftBy : FnScope ["factor", "heap", "taking"] ["factor", "heap", "taking"] (defScope sLeftBy) := ⟨rfl, rfl, rfl, by decide +kernel, rfl, by decide +kernel, by decide +kernel⟩
theorem ok_left_by {f : Addr} {fd : FuncData} (F : Fun K "left_by" "left_by" sLeftBy f fd) : FnOk P w K mg base CX0 1 f fd ["factor", "heap", "taking"] spLeftBy := by
  refine F.ok scLeftBy (fun vs H Q E h => ?_) (fun cdv A outer s H vs Q E hr h => ?_)
  · obtain ⟨f, h, t, rfl, _⟩ := h
    rfl
  · obtain ⟨f, h, t, rfl, h1, h30, q⟩ := h
    exact ⟨_, pss_one (ps_ret (pe_tup (pa_cons (pe_op op_sub (pv 1) (pv 2)) (pa_cons (pe_op op_mul (pv 0) (pv 2)) pa_nil)))), _, rfl, _, rfl, h, t, rfl, rfl, _, rfl, _, rfl, f, t, rfl, rfl, .inl (f_small h1 h30), (by show 2 ≤ sizeLine; decide), q⟩
end
end TA
set_option Elab.async false
set_option linter.all false
set_option maxRecDepth 100000
set_option maxHeartbeats 4000000
namespace TA
open PySem PySem.Spec PyProof.Rows L2
def takeB (h l t : Int) : Bool := decide (1 ≤ t) && (decide (t ≤ h) && decide (t ≤ l))
def lostShows (f h l : Int) (ns : List Int) : Bool := decide (ns = parts f h) && lostB ns l
def wonShows (f h l t : Int) : Bool := takeB h l t && lostB (parts f (h - t)) (f * t)
section
variable {P : Program} {w : World} {K : PySem.W.Frag} {mg : Str → Option Value} {base : Heap}
/-! ### is_taking, of whole numbers -/
def spIsTaking : Sp := fun vs H Q _ => ∃ (h l t : Int), vs = [.int h, .int l, .int t] ∧ Q (.bl (takeB h l t)) H
theorem scIsTaking : FnScope ["heap", "limit", "taking"] ["heap", "limit", "taking"] (defScope sIsTaking) := ⟨rfl, rfl, rfl, by decide +kernel, rfl, by decide +kernel, by decide +kernel⟩
theorem ok_is_taking {f fW : Addr} {fd fdW : FuncData} (F : Fun K "is_taking" "is_taking" sIsTaking f fd) (FW : Fun K "is_whole" "is_whole" sIsWhole fW fdW) (bW : Binds K fdW ["value", "least"] []) (gW : mg "is_whole" = some (.ref fW)) (mt : mg "type" = none) (mi : mg "int" = none) :
    FnOk P w K mg base CX0 2 f fd ["heap", "limit", "taking"] spIsTaking := by
  have GW : FnOk P w K mg base CX0 1 fW fdW ["value", "least"] (spIsWhole K) := ok_is_whole FW mt mi
  refine F.ok scIsTaking (fun vs H Q E h => ?_) (fun cdv A outer s H vs Q E hr h => ?_)
  · obtain ⟨h, l, t, rfl, _⟩ := h
    rfl
  · obtain ⟨h, l, t, rfl, q⟩ := h
    refine ⟨_, pss_one (ps_ret (pe_and (pe_call GW hr (by rfl) gW FW.kp bW .nil pass0 (pa_cons (pv 2) (pa_cons pe_int pa_nil))) (pe_and (pe_cmpR op_le (pv 2) (pv 0) (nomark _)) (pe_one (pe_cmpR op_le (pv 2) (pv 1) (nomark _)))))), ?_⟩
    refine ⟨_, rfl, _, _, _, rfl, .int t, .inl ⟨t, rfl, _, rfl, ?_⟩⟩
    unfold takeB at q
    by_cases c1 : 1 ≤ t
    · rw [decide_eq_true c1] at q ⊢
      refine iteT ⟨_, rfl, _, rfl, _, _, rfl, rfl, _, rfl, ?_⟩
      by_cases c2 : t ≤ h
      · rw [decide_eq_true c2] at q ⊢
        exact iteT ⟨_, rfl, _, rfl, _, _, rfl, rfl, q⟩
      · rw [decide_eq_false c2] at q ⊢
        exact iteF q
    · rw [decide_eq_false c1] at q ⊢
      exact iteF q
/-! ### Lost.shows -/
def spLostShows (K : PySem.W.Frag) (C T : Addr) : Sp := fun vs H Q _ => ∃ (p dx a : Addr) (ns : List Int) (f h l : Int), vs = [.ref p, .int f, .int h, .int l] ∧ H p = some (.ins C dx (lostF a)) ∧ H a = some (.lst (ns.map V.int)) ∧ 1 ≤ f ∧ f ≤ 30 ∧ 0 ≤ h ∧ h < Bd ∧ GxR.TabG H T ∧
  ∀ H', Sm H H' → Q (.bl (lostShows f h l ns)) H'
theorem scLostShows : FnScope ["self", "factor", "heap", "limit"] ["self", "factor", "heap", "limit"] (defScope sLostShows) := ⟨rfl, rfl, rfl, by decide +kernel, rfl, by decide +kernel, by decide +kernel⟩
theorem ok_lost_shows {f C T fI fW fS fL : Addr} {fd fdW fdS fdL : FuncData} (F : Fun K "shows" "Lost.shows" sLostShows f fd) (O : One K mg "Lost" "parts" C fI)
    (GW : FnOk P w K mg base CX0 3 fW fdW ["numbers", "least"] (spIsWholeList K T)) (kW : PySem.W.keepIn K (.ref fW) = true) (bW : Binds K fdW ["numbers", "least"] []) (gW : mg "is_whole_list" = some (.ref fW))
    (GS : FnOk P w K mg base CX0 3 fS fdS ["factor", "heap"] spSumOf) (kS : PySem.W.keepIn K (.ref fS) = true) (bS : Binds K fdS ["factor", "heap"] []) (gS : mg "sum_of" = some (.ref fS))
    (GL : FnOk P w K mg base CX0 1 fL fdL ["parts", "limit"] (spIsLost K)) (kL : PySem.W.keepIn K (.ref fL) = true) (bL : Binds K fdL ["parts", "limit"] []) (gL : mg "is_lost" = some (.ref fL)) :
    FnOk P w K mg base CX0 4 f fd ["self", "factor", "heap", "limit"] (spLostShows K C T) := by
  refine F.ok scLostShows (fun vs H Q E h => ?_) (fun cdv A outer s H vs Q E hr h => ?_)
  · obtain ⟨p, dx, a, ns, f, h, l, rfl, _⟩ := h
    rfl
  · obtain ⟨p, dx, a, ns, f, h, l, rfl, hp, ha, h1, h30, h0, hB, hT, q⟩ := h
    have hr1 : Room 1 _ := hr.mono (by decide)
    refine ⟨_, pss_cons (ps_if (pt_not (pt_val (pe_call GW hr (by rfl) gW kW bW .nil pass0 (pa_cons (pe_fld (pv 0) rfl) (pa_cons pe_int pa_nil))))) (pss_one (ps_ret pe_bl)) pss_nil)
      (pss_one (ps_ret (pe_and (pe_cmpR (op_eqL hr.units) (pe_fld (pv 0) rfl) (pe_call GS hr (by rfl) gS kS bS .nil pass0 (pa_cons (pv 1) (pa_cons (pv 2) pa_nil))) (nomark _))
        (pe_one (pe_call GL hr1 (by rfl) gL kL bL .nil pass0 (pa_cons (pe_fld (pv 0) rfl) (pa_cons (pv 3) pa_nil))))))), ?_⟩
    refine ⟨_, rfl, p, C, dx, _, _, rfl, hp, O.cl, O.nF, rfl, _, 1, rfl, hT, .inr ⟨a, _, _, rfl, SqL.of ha, wl_len, wl_each, fun H1 hb => ⟨_, rfl, ?_⟩⟩⟩
    rw [wl_all]
    have s1 := Sm.tabbed hT hb
    have hp1 : H1 p = some (.ins C dx (lostF a)) := s1.1 _ _ rfl hp
    have ha1 := s1.lst ha
    by_cases c : (ns.all fun n => decide (1 ≤ n)) = true
    · rw [c]
      refine iteF ⟨_, rfl, p, C, dx, _, _, rfl, hp1, O.cl, O.nF, rfl, _, rfl, _, rfl, f, h, rfl, h1, h30, h0, hB, fun r H2 _ s2 nr hR => ?_⟩
      have hp2 := s2 _ _ hp1
      have ha2 := s2 _ _ ha1
      refine ⟨a, r, _, _, rfl, rfl, SqL.of ha2, SqL.of hR, _, rfl, ?_⟩
      have q2 := q H2 (s1.trans (Sm.of s2))
      unfold lostShows at q2
      by_cases e : ns = parts f h
      · rw [decide_eq_true e] at q2 ⊢
        exact iteT ⟨_, rfl, p, C, dx, _, _, rfl, hp2, O.cl, O.nF, rfl, _, rfl, a, ns, l, rfl, SqL.of ha2, q2⟩
      · rw [decide_eq_false e] at q2 ⊢
        exact iteF q2
    · have q1 := q H1 s1
      have e : lostShows f h l ns = false := by
        unfold lostShows
        rw [decide_eq_false fun e => c (List.all_eq_true.mpr fun n hn => decide_eq_true (parts_mem h1 n (e ▸ hn)).1)]
        rfl
      rw [e] at q1
      rw [Bool.eq_false_iff.mpr c]
      exact iteT q1
/-! ### Won.shows -/
def spWonShows (C : Addr) : Sp := fun vs H Q _ => ∃ (p dx : Addr) (t f h l : Int), vs = [.ref p, .int f, .int h, .int l] ∧ H p = some (.ins C dx (wonF t)) ∧ 1 ≤ f ∧ f ≤ 30 ∧ 0 ≤ h ∧ h < Bd ∧ ∀ H', Same H H' → Q (.bl (wonShows f h l t)) H'
theorem scWonShows : FnScope ["self", "factor", "heap", "limit", "next_heap", "next_limit"] ["self", "factor", "heap", "limit"] (defScope sWonShows) := ⟨rfl, rfl, rfl, by decide +kernel, rfl, by decide +kernel, by decide +kernel⟩
theorem ok_won_shows {f C fI fT fS fL fB : Addr} {fd fdT fdS fdL fdB : FuncData} (F : Fun K "shows" "Won.shows" sWonShows f fd) (O : One K mg "Won" "taking" C fI)
    (GT : FnOk P w K mg base CX0 2 fT fdT ["heap", "limit", "taking"] spIsTaking) (kT : PySem.W.keepIn K (.ref fT) = true) (bT : Binds K fdT ["heap", "limit", "taking"] []) (gT : mg "is_taking" = some (.ref fT))
    (GS : FnOk P w K mg base CX0 3 fS fdS ["factor", "heap"] spSumOf) (kS : PySem.W.keepIn K (.ref fS) = true) (bS : Binds K fdS ["factor", "heap"] []) (gS : mg "sum_of" = some (.ref fS))
    (GL : FnOk P w K mg base CX0 1 fL fdL ["parts", "limit"] (spIsLost K)) (kL : PySem.W.keepIn K (.ref fL) = true) (bL : Binds K fdL ["parts", "limit"] []) (gL : mg "is_lost" = some (.ref fL))
    (GB : FnOk P w K mg base CX0 1 fB fdB ["factor", "heap", "taking"] spLeftBy) (kB : PySem.W.keepIn K (.ref fB) = true) (bB : Binds K fdB ["factor", "heap", "taking"] []) (gB : mg "left_by" = some (.ref fB)) :
    FnOk P w K mg base CX0 4 f fd ["self", "factor", "heap", "limit"] (spWonShows C) := by
  refine F.ok scWonShows (fun vs H Q E h => ?_) (fun cdv A outer s H vs Q E hr h => ?_)
  · obtain ⟨p, dx, t, f, h, l, rfl, _⟩ := h
    rfl
  · obtain ⟨p, dx, t, f, h, l, rfl, hp, h1, h30, h0, hB, q⟩ := h
    have hr1 : Room 1 _ := hr.mono (by decide)
    have hr2 : Room 2 _ := hr.mono (by decide)
    refine ⟨_, pss_cons (ps_if (pt_not (pt_val (pe_call GT hr2 (by rfl) gT kT bT .nil pass0 (pa_cons (pv 2) (pa_cons (pv 3) (pa_cons (pe_fld (pv 0) rfl) pa_nil)))))) (pss_one (ps_ret pe_bl)) pss_nil)
      (pss_cons (ps_asg (pe_call GB hr1 (by rfl) gB kB bB .nil pass0 (pa_cons (pv 1) (pa_cons (pv 2) (pa_cons (pe_fld (pv 0) rfl) pa_nil)))) (pg_tup (by rfl) (pgs_cons (pg_name (i := 4) scWonShows.nd rfl (Or.inl rfl)) (pgs_cons (pg_name (i := 5) scWonShows.nd rfl (Or.inl rfl)) pgs_nil))))
      (pss_one (ps_ret (pe_call GL hr1 (by rfl) gL kL bL .nil pass0 (pa_cons (pe_call GS hr (by rfl) gS kS bS .nil pass0 (pa_cons (pv 1) (pa_cons (pv 4) pa_nil))) (pa_cons (pv 5) pa_nil)))))), ?_⟩
    refine ⟨_, rfl, _, rfl, _, rfl, p, C, dx, _, _, rfl, hp, O.cl, O.nF, rfl, h, l, t, rfl, _, rfl, ?_⟩
    by_cases c : takeB h l t = true
    · rw [c]
      refine iteF ⟨_, rfl, _, rfl, _, rfl, p, C, dx, _, _, rfl, hp, O.cl, O.nF, rfl, f, h, t, rfl, h1, h30, fun u nu => ?_⟩
      have ht : 1 ≤ t ∧ t ≤ h := by
        unfold takeB at c
        simp only [Bool.and_eq_true, decide_eq_true_eq] at c
        exact ⟨c.1, c.2.1⟩
      refine ⟨u, _, rfl, SqT.of upd_same, rfl, _, _, rfl, _, _, rfl, rfl, ?_⟩
      refine ⟨_, rfl, _, rfl, f, h - t, rfl, h1, h30, by omega, by omega, fun r H2 _ s2 nr hR => ?_⟩
      refine ⟨_, rfl, r, _, f * t, rfl, SqL.of hR, ?_⟩
      have q2 := q H2 ((same_upd nu).trans s2)
      unfold wonShows at q2
      rw [c] at q2
      exact q2
    · have q1 := q H (Same.refl H)
      unfold wonShows at q1
      rw [Bool.eq_false_iff.mpr c] at q1 ⊢
      exact iteT q1
end
end TA
set_option Elab.async false
set_option linter.all false
set_option maxRecDepth 100000
set_option maxHeartbeats 4000000
namespace TA
open PySem PySem.Spec PyProof.Rows L2
section
variable {P : Program} {w : World} {K : PySem.W.Frag} {mg : Str → Option Value} {base : Heap}
/-! ### check_limit, check_turn, of what is such -/
theorem scCkLimit : FnScope ["limit"] ["limit"] (defScope sCkLimit) := ⟨rfl, rfl, rfl, by decide +kernel, rfl, by decide +kernel, by decide +kernel⟩
theorem ok_ck_limit {f fW : Addr} {fd fdW : FuncData} (F : Fun K "check_limit" "check_limit" sCkLimit f fd) (FW : Fun K "is_whole" "is_whole" sIsWhole fW fdW) (bW : Binds K fdW ["value", "least"] []) (gW : mg "is_whole" = some (.ref fW))
    (mt : mg "type" = none) (mi : mg "int" = none) :
    FnOk P w K mg base CX0 2 f fd ["limit"] spCkHeap := by
  have GW : FnOk P w K mg base CX0 1 fW fdW ["value", "least"] (spIsWhole K) := ok_is_whole FW mt mi
  refine F.ok scCkLimit (fun vs H Q E h => ?_) (fun cdv A outer s H vs Q E hr h => ?_)
  · obtain ⟨n, rfl, _⟩ := h
    rfl
  · obtain ⟨n, rfl, h1, q⟩ := h
    refine ⟨_, pss_one (ps_if (pt_not (pt_val (pe_call GW hr (by rfl) gW FW.kp bW .nil pass0 (pa_cons (pv 0) (pa_cons pe_int pa_nil))))) pss_never pss_nil), ?_⟩
    refine ⟨_, rfl, _, _, _, rfl, .int n, .inl ⟨n, rfl, _, rfl, ?_⟩⟩
    rw [decide_eq_true h1]
    exact iteF q
def spCkTurn : Sp := fun vs H Q _ => ∃ (f h l : Int), vs = [.int f, .int h, .int l] ∧ 1 ≤ f ∧ f ≤ 30 ∧ 0 ≤ h ∧ 0 ≤ l ∧ Q .non H
theorem scCkTurn : FnScope ["factor", "heap", "limit"] ["factor", "heap", "limit"] (defScope sCkTurn) := ⟨rfl, rfl, rfl, by decide +kernel, rfl, by decide +kernel, by decide +kernel⟩
theorem ok_ck_turn {f fC fN fL : Addr} {fd fdC fdN fdL : FuncData} (F : Fun K "check_turn" "check_turn" sCkTurn f fd)
    (GC : FnOk P w K mg base CX0 2 fC fdC ["factor"] spCkFactor) (kC : PySem.W.keepIn K (.ref fC) = true) (bC : Binds K fdC ["factor"] []) (gC : mg "check_factor" = some (.ref fC))
    (GN : FnOk P w K mg base CX0 2 fN fdN ["heap"] spCkHeap) (kN : PySem.W.keepIn K (.ref fN) = true) (bN : Binds K fdN ["heap"] []) (gN : mg "check_heap" = some (.ref fN))
    (GL : FnOk P w K mg base CX0 2 fL fdL ["limit"] spCkHeap) (kL : PySem.W.keepIn K (.ref fL) = true) (bL : Binds K fdL ["limit"] []) (gL : mg "check_limit" = some (.ref fL)) :
    FnOk P w K mg base CX0 3 f fd ["factor", "heap", "limit"] spCkTurn := by
  refine F.ok scCkTurn (fun vs H Q E h => ?_) (fun cdv A outer s H vs Q E hr h => ?_)
  · obtain ⟨f, h, l, rfl, _⟩ := h
    rfl
  · obtain ⟨f, h, l, rfl, h1, h30, h0, l0, q⟩ := h
    exact ⟨_, pss_cons (ps_expr (pe_call GC hr (by rfl) gC kC bC .nil pass0 (pa_cons (pv 0) pa_nil))) (pss_cons (ps_expr (pe_call GN hr (by rfl) gN kN bN .nil pass0 (pa_cons (pv 1) pa_nil)))
      (pss_one (ps_expr (pe_call GL hr (by rfl) gL kL bL .nil pass0 (pa_cons (pv 2) pa_nil))))), _, rfl, f, rfl, h1, h30, _, rfl, h, rfl, h0, _, rfl, l, rfl, l0, q⟩
/-! ### told -/
def spTold (CL CW : Addr) : Sp := fun vs H Q _ => ∃ (f h l : Int), vs = [.int f, .int h, .int l] ∧ 1 ≤ f ∧ f ≤ 30 ∧ 0 ≤ h ∧ h < Bd ∧ 0 ≤ l ∧
  (lostB (parts f h) l = true → (parts f h).length ≤ 9001 → ∀ (p dx a : Addr) (H' : Hp), Same H H' → H p = none → H a = none → p ≠ a → H' p = some (.ins CL dx (lostF a)) → H' a = some (.lst ((parts f h).map V.int)) → Q (.ref p) H') ∧
  (∀ m t, parts f h = m ++ [t] → t ≤ l → ∀ (p dx : Addr) (H' : Hp), Same H H' → H p = none → H' p = some (.ins CW dx (wonF t)) → Q (.ref p) H')
theorem scTold : FnScope ["factor", "heap", "limit", "parts"] ["factor", "heap", "limit"] (defScope sTold) := ⟨rfl, rfl, rfl, by decide +kernel, rfl, by decide +kernel, by decide +kernel⟩
theorem ok_told {f CL CW fIL fIW fC fS fL : Addr} {fd fdIL fdIW fdC fdS fdL : FuncData} (F : Fun K "told" "told" sTold f fd)
    (OL : One K mg "Lost" "parts" CL fIL) (GIL : FnOk P w K mg base CX0 1 fIL fdIL ["self", "parts"] (spLostInit K CL)) (bIL : Binds K fdIL ["self", "parts"] [])
    (OW : One K mg "Won" "taking" CW fIW) (GIW : FnOk P w K mg base CX0 1 fIW fdIW ["self", "taking"] (spWonInit CW)) (bIW : Binds K fdIW ["self", "taking"] [])
    (GC : FnOk P w K mg base CX0 3 fC fdC ["factor", "heap", "limit"] spCkTurn) (kC : PySem.W.keepIn K (.ref fC) = true) (bC : Binds K fdC ["factor", "heap", "limit"] []) (gC : mg "check_turn" = some (.ref fC))
    (GS : FnOk P w K mg base CX0 3 fS fdS ["factor", "heap"] spSumOf) (kS : PySem.W.keepIn K (.ref fS) = true) (bS : Binds K fdS ["factor", "heap"] []) (gS : mg "sum_of" = some (.ref fS))
    (GL : FnOk P w K mg base CX0 1 fL fdL ["parts", "limit"] (spIsLost K)) (kL : PySem.W.keepIn K (.ref fL) = true) (bL : Binds K fdL ["parts", "limit"] []) (gL : mg "is_lost" = some (.ref fL)) :
    FnOk P w K mg base CX0 4 f fd ["factor", "heap", "limit"] (spTold CL CW) := by
  refine F.ok scTold (fun vs H Q E h => ?_) (fun cdv A outer s H vs Q E hr h => ?_)
  · obtain ⟨f, h, l, rfl, _⟩ := h
    rfl
  · obtain ⟨f, h, l, rfl, h1, h30, h0, hB, l0, qL, qW⟩ := h
    have hr1 : Room 1 _ := hr.mono (by decide)
    have hr2 : Room (1 + 1) _ := hr.mono (by decide)
    refine ⟨_, pss_cons (ps_expr (pe_call GC hr (by rfl) gC kC bC .nil pass0 (pa_cons (pv 0) (pa_cons (pv 1) (pa_cons (pv 2) pa_nil)))))
      (pss_cons (ps_set (i := 3) scTold.nd rfl (Or.inl rfl) (pe_call GS hr (by rfl) gS kS bS .nil pass0 (pa_cons (pv 0) (pa_cons (pv 1) pa_nil))))
      (pss_cons (ps_if (pt_val (pe_call GL hr1 (by rfl) gL kL bL .nil pass0 (pa_cons (pv 3) (pa_cons (pv 2) pa_nil)))) (pss_one (ps_ret (pe_make OL.mkC GIL hr2 (by rfl) OL.mgC bIL .nil pass0 (pa_cons (pv 3) pa_nil)))) pss_nil)
      (pss_one (ps_ret (pe_make OW.mkC GIW hr2 (by rfl) OW.mgC bIW .nil pass0 (pa_cons (pe_ix ix_list (pv 3) (pe_un un_neg pe_int) (fun _ _ => rfl)) pa_nil)))))), ?_⟩
    refine ⟨_, rfl, _, rfl, _, rfl, f, h, l, rfl, h1, h30, h0, l0, ?_⟩
    refine ⟨_, rfl, _, rfl, f, h, rfl, h1, h30, h0, hB, fun r H1 hlen s1 nr hR => ?_⟩
    refine ⟨_, rfl, _, rfl, r, _, l, rfl, SqL.of hR, _, rfl, ?_⟩
    by_cases c : lostB (parts f h) l = true
    · rw [c]
      refine iteT ⟨_, rfl, fun x dx nx ndx nex => ?_⟩
      have sx : Same H1 (upd (upd H1 dx (.own x)) x (.ins CL dx [])) := same_new (same_upd ndx) nx
      refine ⟨x, dx, r, _, rfl, SqL.of (sx _ _ hR), upd_same, fun a na => ⟨rfl, ?_⟩⟩
      have nax : x ≠ a := ne_of_none upd_same na
      have na1 : H1 a = none := sx.free na
      refine qL c hlen x dx a _ ?_ (s1.free nx) (s1.free na1) nax upd_same (by rw [upd_ne (Ne.symm nax)]; exact upd_same)
      exact s1.trans (same_new (sx.trans (same_upd na)) nx)
    · rw [Bool.eq_false_iff.mpr c]
      refine iteF ?_
      rcases cases_last (parts f h) with e | ⟨m, t, e⟩
      · exact absurd (by rw [e]; rfl) c
      · rw [e] at hR c
        refine ⟨_, rfl, 1, rfl, r, _, _, _, rfl, rfl, SqL.of hR, vlast rfl, fun x dx nx ndx nex => ?_⟩
        refine ⟨x, dx, t, rfl, upd_same, rfl, ?_⟩
        rw [lostB_snoc] at c
        have sx : Same H1 (upd (upd H1 dx (.own x)) x (.ins CW dx [])) := same_new (same_upd ndx) nx
        refine qW m t e (by have := of_decide_eq_false (Bool.eq_false_iff.mpr c); omega) x dx _ ?_ (s1.free nx) upd_same
        exact s1.trans (same_new sx nx)
end
end TA
set_option Elab.async false
set_option linter.all false
set_option maxRecDepth 100000
set_option maxHeartbeats 4000000
namespace TA
open PySem PySem.Spec PyProof.Rows L2
/-! ### isinstance of the two answers -/
structure IsF (K : PySem.W.Frag) (CL CW : Addr) : Prop where
  haL : PySem.W.findIn K (.ref CL) "__class__" = some (some (.builtin "object.__class__"))
  hmL : PySem.W.mroIn K CL (.type "object") = some true
  haW : PySem.W.findIn K (.ref CW) "__class__" = some (some (.builtin "object.__class__"))
  hmW : PySem.W.mroIn K CW (.type "object") = some true
  hn : PySem.W.specialIn K (.builtin "object.__class__") "__get__" = some (some (.builtin "getset_descriptor.__get__"))
  htk : PySem.W.takesIn K (.builtin "object.__class__") = some true
  kLL : PySem.W.kitOne K (.ref CL) (.ref CL) = some true
  kLW : PySem.W.kitOne K (.ref CL) (.ref CW) = some false
  kWL : PySem.W.kitOne K (.ref CW) (.ref CL) = some false
  kWW : PySem.W.kitOne K (.ref CW) (.ref CW) = some true
theorem IsF.tyL {K : PySem.W.Frag} {mg : Str → Option Value} {CL CW fI p dx : Addr} {H : Hp} {fs : List (Str × V)} (I : IsF K CL CW) (O : One K mg "Lost" "parts" CL fI) (h : H p = some (.ins CL dx fs)) : TyX K H (.ref p) (.ref CL) := .base (.ins h O.cl I.haL I.hn I.htk I.hmL)
theorem IsF.tyW {K : PySem.W.Frag} {mg : Str → Option Value} {CL CW fI p dx : Addr} {H : Hp} {fs : List (Str × V)} (I : IsF K CL CW) (O : One K mg "Won" "taking" CW fI) (h : H p = some (.ins CW dx fs)) : TyX K H (.ref p) (.ref CW) := .base (.ins h O.cl I.haW I.hn I.htk I.hmW)
end TA
set_option Elab.async false
set_option linter.all false
set_option maxRecDepth 100000
set_option maxHeartbeats 4000000
namespace TA
open PySem PySem.Spec PyProof.Rows L2
theorem won_ok {f h l t : Int} {m : List Int} (h1 : 1 ≤ f) (h0 : 0 ≤ h) (e : parts f h = m ++ [t]) (tl : t ≤ l) : wonShows f h l t = true := by
  have ht := parts_mem h1 t (by rw [e]; simp)
  unfold wonShows takeB
  rw [parts_but h1 h0 e, decide_eq_true ht.1, decide_eq_true ht.2, decide_eq_true tl]
  show lostB m (f * t) = true
  rcases cases_last m with rfl | ⟨m', y, rfl⟩
  · rfl
  · rw [lostB_snoc]
    have hc := (parts_ok h1 h0).2
    rw [e, List.append_assoc] at hc
    exact decide_eq_true (ch_last m' y t hc)
theorem lost_not {f h l t : Int} (h1 : 1 ≤ f) (h0 : 0 ≤ h) (c : lostB (parts f h) l = true) (t0 : 0 < t) (th : t ≤ h) (tl : t ≤ l) : lostB (parts f (h - t)) (f * t) = false := by
  rcases cases_last (parts f h) with e | ⟨m, s, e⟩
  · have := (parts_ok h1 h0).1
    rw [e] at this
    have : h = 0 := by simpa using this.symm
    omega
  · rw [e, lostB_snoc] at c
    have c' := of_decide_eq_true c
    obtain ⟨m', z, e2, hz⟩ := lost_none h1 h0 e t0 (show t < s by omega)
    rw [e2, lostB_snoc]
    exact decide_eq_false (by omega)
theorem lost_shows {f h l : Int} (c : lostB (parts f h) l = true) : lostShows f h l (parts f h) = true := by
  unfold lostShows
  rw [c, decide_eq_true rfl]
  rfl
section
variable {P : Program} {w : World} {K : PySem.W.Frag} {mg : Str → Option Value} {base : Heap}
/-! ### check_taking, behind, of what is such -/
def spCkTaking : Sp := fun vs H Q _ => ∃ (h l t : Int), vs = [.int h, .int l, .int t] ∧ takeB h l t = true ∧ Q .non H
theorem scCkTaking : FnScope ["heap", "limit", "taking"] ["heap", "limit", "taking"] (defScope sCkTaking) := ⟨rfl, rfl, rfl, by decide +kernel, rfl, by decide +kernel, by decide +kernel⟩
theorem ok_ck_taking {f fT : Addr} {fd fdT : FuncData} (F : Fun K "check_taking" "check_taking" sCkTaking f fd)
    (GT : FnOk P w K mg base CX0 2 fT fdT ["heap", "limit", "taking"] spIsTaking) (kT : PySem.W.keepIn K (.ref fT) = true) (bT : Binds K fdT ["heap", "limit", "taking"] []) (gT : mg "is_taking" = some (.ref fT)) :
    FnOk P w K mg base CX0 3 f fd ["heap", "limit", "taking"] spCkTaking := by
  refine F.ok scCkTaking (fun vs H Q E h => ?_) (fun cdv A outer s H vs Q E hr h => ?_)
  · obtain ⟨h, l, t, rfl, _⟩ := h
    rfl
  · obtain ⟨h, l, t, rfl, c, q⟩ := h
    refine ⟨_, pss_one (ps_if (pt_not (pt_val (pe_call GT hr (by rfl) gT kT bT .nil pass0 (pa_cons (pv 0) (pa_cons (pv 1) (pa_cons (pv 2) pa_nil)))))) pss_never pss_nil), ?_⟩
    refine ⟨_, rfl, _, rfl, _, rfl, h, l, t, rfl, _, rfl, ?_⟩
    rw [c]
    exact iteF q
def spBehind : Sp := fun vs H Q _ => ∃ (f h l t : Int), vs = [.int f, .int h, .int l, .int t] ∧ 1 ≤ f ∧ f ≤ 30 ∧ 0 ≤ h ∧ 0 ≤ l ∧ takeB h l t = true ∧ ∀ p, H p = none → Q (.ref p) (upd H p (.tup [.int (h - t), .int (f * t)]))
theorem scBehind : FnScope ["factor", "heap", "limit", "taking"] ["factor", "heap", "limit", "taking"] (defScope sBehind) := ⟨rfl, rfl, rfl, by decide +kernel, rfl, by decide +kernel, by decide +kernel⟩
theorem ok_behind {f fC fT fB : Addr} {fd fdC fdT fdB : FuncData} (F : Fun K "behind" "behind" sBehind f fd)
    (GC : FnOk P w K mg base CX0 3 fC fdC ["factor", "heap", "limit"] spCkTurn) (kC : PySem.W.keepIn K (.ref fC) = true) (bC : Binds K fdC ["factor", "heap", "limit"] []) (gC : mg "check_turn" = some (.ref fC))
    (GT : FnOk P w K mg base CX0 3 fT fdT ["heap", "limit", "taking"] spCkTaking) (kT : PySem.W.keepIn K (.ref fT) = true) (bT : Binds K fdT ["heap", "limit", "taking"] []) (gT : mg "check_taking" = some (.ref fT))
    (GB : FnOk P w K mg base CX0 1 fB fdB ["factor", "heap", "taking"] spLeftBy) (kB : PySem.W.keepIn K (.ref fB) = true) (bB : Binds K fdB ["factor", "heap", "taking"] []) (gB : mg "left_by" = some (.ref fB)) :
    FnOk P w K mg base CX0 4 f fd ["factor", "heap", "limit", "taking"] spBehind := by
  refine F.ok scBehind (fun vs H Q E h => ?_) (fun cdv A outer s H vs Q E hr h => ?_)
  · obtain ⟨f, h, l, t, rfl, _⟩ := h
    rfl
  · obtain ⟨f, h, l, t, rfl, h1, h30, h0, l0, c, q⟩ := h
    exact ⟨_, pss_cons (ps_expr (pe_call GC hr (by rfl) gC kC bC .nil pass0 (pa_cons (pv 0) (pa_cons (pv 1) (pa_cons (pv 2) pa_nil))))) (pss_cons (ps_expr (pe_call GT hr (by rfl) gT kT bT .nil pass0 (pa_cons (pv 1) (pa_cons (pv 2) (pa_cons (pv 3) pa_nil)))))
      (pss_one (ps_ret (pe_call GB (hr.mono (by decide)) (by rfl) gB kB bB .nil pass0 (pa_cons (pv 0) (pa_cons (pv 1) (pa_cons (pv 3) pa_nil))))))), _, rfl, _, rfl, _, rfl, f, h, l, rfl, h1, h30, h0, l0, _, rfl, _, rfl, _, rfl, h, l, t, rfl, c, _, rfl, _, rfl, _, rfl, f, h, t, rfl, h1, h30, q⟩
end
end TA
set_option Elab.async false
set_option linter.all false
set_option maxRecDepth 100000
set_option maxHeartbeats 4000000
namespace TA
open PySem PySem.Spec PyProof.Rows L2
section
variable {X : Cx}
theorem op_mulX : OpR X (binaryOp .Mult) (rI IntMulOk fun i j => .int (i * j)) := opI fun _ _ _ _ _ _ _ hc q => mul_int q hc
end
def Bits (c : Int) : Prop := Builtin.Int.intBits c ≤ 1048576
theorem bits_sum {c d : Int} (h : Bits c) (hd : Builtin.Int.intBits d ≤ 64) : Builtin.Int.intBits (c + d) ≤ 1048577 := by
  have := PySem.intBits_add_le h hd
  have e : max 1048576 64 + 1 = 1048577 := by decide
  rw [e] at this
  exact this
theorem bits64 {k : Int} (h1 : -(2 ^ 40) < k) (h2 : k < 2 ^ 40) : Builtin.Int.intBits k ≤ 64 := by
  have e1 : (2 : Int) ^ 40 = 1099511627776 := by decide
  have e2 : (2 : Int) ^ 64 = 18446744073709551616 := by decide
  exact intBits_le_64 (by omega) (by omega)
def prm : List Int := [1000003, 1000033, 1000037, 1000039, 1000081, 1000099, 1000117, 1000121, 1000133, 1000151, 1000159, 1000171, 1000183, 1000187, 1000193, 1000199]
theorem prm_at {k : Int} : ∃ p, atI (prm.map V.int) (k % 16) = some (.int p) ∧ 0 < p := by
  have h0 := Int.emod_nonneg k (show (16 : Int) ≠ 0 by decide)
  have h1 := Int.emod_lt_of_pos k (show (0 : Int) < 16 by decide)
  have hl : (k % 16).toNat < prm.length := by show (k % 16).toNat < 16; omega
  refine ⟨prm[(k % 16).toNat], vat h0 (List.getElem?_eq_getElem hl), ?_⟩
  have all : ∀ x ∈ prm, (0 : Int) < x := by decide
  exact all _ (List.getElem_mem hl)
section
variable {P : Program} {w : World} {K : PySem.W.Frag} {mg : Str → Option Value} {base : Heap}
/-! ### _law_cell_at -/
def spCellAt (K : PySem.W.Frag) : Sp := fun vs H Q _ => ∃ (a : Addr) (ns : List Int) (k : Int), vs = [.ref a, .int k] ∧ SqL K H a (ns.map V.int) ∧ 0 ≤ k ∧ ∀ v, (v = 0 ∨ v ∈ ns) → Q (.int v) H
theorem scCellAt : FnScope ["_law_script", "_law_k"] ["_law_script", "_law_k"] (defScope sCellAt) := ⟨rfl, rfl, rfl, by decide +kernel, rfl, by decide +kernel, by decide +kernel⟩
theorem ok_cell_at {f : Addr} {fd : FuncData} (F : Fun K "_law_cell_at" "_law_cell_at" sCellAt f fd) (ml : mg "len" = none) :
    FnOk P w K mg base CX0 1 f fd ["_law_script", "_law_k"] (spCellAt K) := by
  refine F.ok scCellAt (fun vs H Q E h => ?_) (fun cdv A outer s H vs Q E hr h => ?_)
  · obtain ⟨a, ns, k, rfl, _⟩ := h
    rfl
  · obtain ⟨a, ns, k, rfl, hS, k0, q⟩ := h
    refine ⟨_, pss_cons (ps_if (pt_cmpR op_lt (pv 1) (pe_callB call_len_seq (by rfl) ml PySem.boot_len (pa_cons (pv 0) pa_nil)) (nomark _)) (pss_one (ps_ret (pe_ix ix_list (pv 0) (pv 1) (fun _ _ => rfl)))) pss_nil)
      (pss_one (ps_ret pe_int)), ?_⟩
    refine ⟨_, rfl, .ref a, rfl, a, _, rfl, .inl hS, _, _, rfl, rfl, _, rfl, ?_⟩
    refine ite2 (fun c => ?_) (fun c => ?_)
    · have c' : k < (((ns.map V.int).length : Nat) : Int) := of_decide_eq_true c
      rw [List.length_map] at c'
      have hl : k.toNat < ns.length := by omega
      exact ⟨.ref a, rfl, .int k, rfl, a, _, _, _, rfl, rfl, hS, vat k0 (List.getElem?_eq_getElem hl), q _ (.inr (List.getElem_mem hl))⟩
    · exact q 0 (.inl rfl)
/-! ### _law_draw -/
def spDraw : Sp := fun vs H Q _ => ∃ (c k m : Int), vs = [.int c, .int k, .int m] ∧ 0 < m ∧ ∀ v H', 0 ≤ v → v < m → Same H H' → Q (.int v) H'
theorem scDraw : FnScope ["_law_cell", "_law_k", "_law_many", "_law_primes"] ["_law_cell", "_law_k", "_law_many"] (defScope sDraw) := ⟨rfl, rfl, rfl, by decide +kernel, rfl, by decide +kernel, by decide +kernel⟩
theorem big64 {j : Int} (h1 : -1000000000 ≤ j) (h2 : j ≤ 1000000000) : -(2 ^ 64) < j ∧ j < 2 ^ 64 := by
  have : (2 : Int) ^ 64 = 18446744073709551616 := by decide
  omega
theorem ok_draw {f : Addr} {fd : FuncData} (F : Fun K "_law_draw" "_law_draw" sDraw f fd) :
    FnOk P w K mg base CX0 1 f fd ["_law_cell", "_law_k", "_law_many"] spDraw := by
  refine F.ok scDraw (fun vs H Q E h => ?_) (fun cdv A outer s H vs Q E hr h => ?_)
  · obtain ⟨c, k, m, rfl, _⟩ := h
    rfl
  · obtain ⟨c, k, m, rfl, m0, q⟩ := h
    refine ⟨_, pss_cons (ps_set (i := 3) scDraw.nd rfl (Or.inl rfl) (pe_tup (pa_cons pe_int (pa_cons pe_int (pa_cons pe_int (pa_cons pe_int (pa_cons pe_int (pa_cons pe_int (pa_cons pe_int (pa_cons pe_int
        (pa_cons pe_int (pa_cons pe_int (pa_cons pe_int (pa_cons pe_int (pa_cons pe_int (pa_cons pe_int (pa_cons pe_int (pa_cons pe_int pa_nil))))))))))))))))))
      (pss_one (ps_ret (pe_op op_mod (pe_op op_mod (pe_op op_add (pe_op op_mul (pv 0) pe_int) (pe_op op_mul (pv 1) pe_int)) (pe_ix ix_tup (pv 3) (pe_op op_mod (pv 1) pe_int) (fun _ _ => rfl))) (pv 2)))), ?_⟩
    refine ⟨(by show 16 ≤ sizeLine; decide), fun t nt => ?_⟩
    obtain ⟨p, hp, p0⟩ := prm_at (k := k)
    refine ⟨_, rfl, c, 48271, rfl, rfl, .inr (big64 (by decide) (by decide)), _, rfl, k, 69621, rfl, rfl, .inr (big64 (by decide) (by decide)), _, _, rfl, rfl, _, rfl, _, rfl, k, 16, rfl, rfl, (by show (0 : Int) < 16; decide),
      t, prm.map V.int, _, _, rfl, rfl, SqT.of upd_same, hp, _, _, rfl, rfl, p0, _, rfl, _, _, rfl, rfl, m0, ?_⟩
    exact q _ _ (Int.emod_nonneg _ (by omega)) (Int.emod_lt_of_pos _ m0) (same_upd nt)
/-! ### _law_value -/
abbrev T40 : Int := 10 ^ 40
def spValue : Sp := fun vs H Q _ => ∃ (c k l : Int), vs = [.int c, .int k, .int l] ∧ Bits c ∧ 0 ≤ k ∧ k ≤ 1000 ∧ 0 < l ∧ l ≤ 1000000 ∧ ∀ v H', 0 ≤ v → v < T40 → Same H H' → Q (.int v) H'
theorem scValue : FnScope ["_law_cell", "_law_k", "_law_limit"] ["_law_cell", "_law_k", "_law_limit"] (defScope sValue) := ⟨rfl, rfl, rfl, by decide +kernel, rfl, by decide +kernel, by decide +kernel⟩
theorem ok_value {f fD : Addr} {fd fdD : FuncData} (F : Fun K "_law_value" "_law_value" sValue f fd) (FD : Fun K "_law_draw" "_law_draw" sDraw fD fdD) (bD : Binds K fdD ["_law_cell", "_law_k", "_law_many"] []) (gD : mg "_law_draw" = some (.ref fD)) :
    FnOk P w K mg base CX0 2 f fd ["_law_cell", "_law_k", "_law_limit"] spValue := by
  have GD : FnOk P w K mg base CX0 1 fD fdD ["_law_cell", "_law_k", "_law_many"] spDraw := ok_draw FD
  refine F.ok scValue (fun vs H Q E h => ?_) (fun cdv A outer s H vs Q E hr h => ?_)
  · obtain ⟨c, k, m, rfl, _⟩ := h
    rfl
  · obtain ⟨c, k, l, rfl, hB, k0, k1, l0, l1, q⟩ := h
    refine ⟨_, pss_cons (ps_if (pt_cmpR op_ge (pv 0) (pe_op op_pow pe_int pe_int) (nomark _)) (pss_one (ps_ret (pe_op op_mod (pe_op op_sub (pv 0) (pe_op op_pow pe_int pe_int)) (pe_op op_pow pe_int pe_int)))) pss_nil)
      (pss_one (ps_ret (pe_call GD hr (by rfl) gD FD.kp bD .nil pass0
        (pa_cons (pe_op op_mulX (pe_op op_add (pv 0) (pe_op op_mul pe_int (pv 1))) (pe_op op_add (pe_op op_add (pv 0) (pe_op op_mul pe_int (pv 1))) pe_int)) (pa_cons (pe_op op_add (pe_op op_mod (pv 1) pe_int) pe_int) (pa_cons (pv 2) pa_nil)))))), ?_⟩
    refine ⟨_, rfl, 10, 18, rfl, rfl, (by show (0 : Int) ≤ 18 ∧ (18 : Int) ≤ 1000000 ∧ (10 : Int).natAbs < 2 ^ 64; decide), _, _, rfl, rfl, _, rfl, ?_⟩
    refine ite2 (fun z => ?_) (fun z => ?_)
    · refine ⟨_, rfl, 10, 18, rfl, rfl, (by show (0 : Int) ≤ 18 ∧ (18 : Int) ≤ 1000000 ∧ (10 : Int).natAbs < 2 ^ 64; decide), _, _, rfl, rfl, 10, 40, rfl, rfl, (by show (0 : Int) ≤ 40 ∧ (40 : Int) ≤ 1000000 ∧ (10 : Int).natAbs < 2 ^ 64; decide), _, _, rfl, rfl, (by show (0 : Int) < 10 ^ 40; decide), ?_⟩
      exact q _ _ (Int.emod_nonneg _ (show (10 : Int) ^ 40 ≠ 0 by decide)) (Int.emod_lt_of_pos _ (show (0 : Int) < 10 ^ 40 by decide)) (Same.refl _)
    · have b1 : Builtin.Int.intBits (c + 977 * k) ≤ 1048577 := bits_sum hB (bits64 (by omega) (by omega))
      have b2 : Builtin.Int.intBits (c + (31 * k + 5)) ≤ 1048577 := bits_sum hB (bits64 (by omega) (by omega))
      rw [← Int.add_assoc] at b2
      refine ⟨_, rfl, _, rfl, 977, k, rfl, rfl, .inl (big64 (by decide) (by decide)), _, _, rfl, rfl, _, rfl, _, rfl, 31, k, rfl, rfl, .inl (big64 (by decide) (by decide)), _, _, rfl, rfl, _, _, rfl, rfl, _, _, rfl, rfl, PySem.IntMulOk.of_le b1 b2 (by decide), _, rfl, k, 9, rfl, rfl, (by show (0 : Int) < 9; decide), _, _, rfl, rfl, _, rfl, ?_⟩
      refine ⟨_, _, l, rfl, l0, fun v H' v0 v1 sm => q v H' v0 ?_ sm⟩
      have : (1000000 : Int) < T40 := by decide
      omega
/-! ### _law_factor -/
def spFactor (K : PySem.W.Frag) : Sp := fun vs H Q _ => ∃ (a : Addr) (ns : List Int) (k : Int), vs = [.ref a, .int k] ∧ SqL K H a (ns.map V.int) ∧ 0 ≤ k ∧ k ≤ 1000 ∧ ∀ v H', 1 ≤ v → v ≤ 30 → Same H H' → Q (.int v) H'
theorem scFactor : FnScope ["_law_script", "_law_k", "_law_cell"] ["_law_script", "_law_k"] (defScope sFactor) := ⟨rfl, rfl, rfl, by decide +kernel, rfl, by decide +kernel, by decide +kernel⟩
theorem five_at {x y d : Int} (d0 : 0 ≤ d) (d1 : d < 5) (x0 : 0 ≤ x) (x1 : x < 8) (y0 : 0 ≤ y) (y1 : y < 30) : ∃ v, atI ([1, 2, 3, 1 + x, 1 + y].map V.int) d = some (.int v) ∧ 1 ≤ v ∧ v ≤ 30 := by
  have hd : d.toNat = 0 ∨ d.toNat = 1 ∨ d.toNat = 2 ∨ d.toNat = 3 ∨ d.toNat = 4 := by omega
  rcases hd with e | e | e | e | e
  · exact ⟨1, vat d0 (by rw [e]; rfl), by omega, by omega⟩
  · exact ⟨2, vat d0 (by rw [e]; rfl), by omega, by omega⟩
  · exact ⟨3, vat d0 (by rw [e]; rfl), by omega, by omega⟩
  · exact ⟨1 + x, vat d0 (by rw [e]; rfl), by omega, by omega⟩
  · exact ⟨1 + y, vat d0 (by rw [e]; rfl), by omega, by omega⟩
theorem ok_factor {f fD fA : Addr} {fd fdD fdA : FuncData} (F : Fun K "_law_factor" "_law_factor" sFactor f fd) (FD : Fun K "_law_draw" "_law_draw" sDraw fD fdD) (bD : Binds K fdD ["_law_cell", "_law_k", "_law_many"] []) (gD : mg "_law_draw" = some (.ref fD))
    (FA : Fun K "_law_cell_at" "_law_cell_at" sCellAt fA fdA) (bA : Binds K fdA ["_law_script", "_law_k"] []) (gA : mg "_law_cell_at" = some (.ref fA)) (ml : mg "len" = none) :
    FnOk P w K mg base CX0 2 f fd ["_law_script", "_law_k"] (spFactor K) := by
  have GD : FnOk P w K mg base CX0 1 fD fdD ["_law_cell", "_law_k", "_law_many"] spDraw := ok_draw FD
  have GA : FnOk P w K mg base CX0 1 fA fdA ["_law_script", "_law_k"] (spCellAt K) := ok_cell_at FA ml
  refine F.ok scFactor (fun vs H Q E h => ?_) (fun cdv A outer s H vs Q E hr h => ?_)
  · obtain ⟨c, k, m, rfl, _⟩ := h
    rfl
  · obtain ⟨a, ns, k, rfl, hS, k0, k1, q⟩ := h
    refine ⟨_, pss_cons (ps_set (i := 2) scFactor.nd rfl (Or.inl rfl) (pe_op op_mod (pe_call GA hr (by rfl) gA FA.kp bA .nil pass0 (pa_cons (pv 0) (pa_cons (pv 1) pa_nil))) (pe_op op_pow pe_int pe_int)))
      (pss_one (ps_ret (pe_ix ix_tup (pe_tup (pa_cons pe_int (pa_cons pe_int (pa_cons pe_int (pa_cons (pe_op op_add pe_int (pe_call GD hr (by rfl) gD FD.kp bD .nil pass0 (pa_cons (pv 2) (pa_cons pe_int (pa_cons pe_int pa_nil)))))
          (pa_cons (pe_op op_add pe_int (pe_call GD hr (by rfl) gD FD.kp bD .nil pass0 (pa_cons (pv 2) (pa_cons pe_int (pa_cons pe_int pa_nil))))) pa_nil))))))
        (pe_call GD hr (by rfl) gD FD.kp bD .nil pass0 (pa_cons (pe_op op_add (pv 2) (pe_op op_mul pe_int (pv 1))) (pa_cons pe_int (pa_cons pe_int pa_nil)))) (fun _ _ => rfl)))), ?_⟩
    refine ⟨_, rfl, _, rfl, a, ns, k, rfl, hS, k0, fun c _ => ?_⟩
    refine ⟨10, 18, rfl, rfl, (by show (0 : Int) ≤ 18 ∧ (18 : Int) ≤ 1000000 ∧ (10 : Int).natAbs < 2 ^ 64; decide), _, _, rfl, rfl, (by show (0 : Int) < 10 ^ 18; decide), ?_⟩
    refine ⟨_, rfl, _, 4, 8, rfl, by decide, fun x H1 x0 x1 s1 => ?_⟩
    refine ⟨_, _, rfl, rfl, _, rfl, _, 4, 30, rfl, by decide, fun y H2 y0 y1 s2 => ?_⟩
    refine ⟨_, _, rfl, rfl, (by show 5 ≤ sizeLine; decide), fun t nt => ?_⟩
    refine ⟨_, rfl, _, rfl, 31, k, rfl, rfl, .inl (big64 (by decide) (by decide)), _, _, rfl, rfl, _, 6, 5, rfl, by decide, fun d H3 d0 d1 s3 => ?_⟩
    obtain ⟨v, hv, v1, v2⟩ := five_at d0 d1 x0 x1 y0 y1
    refine ⟨t, [1, 2, 3, 1 + x, 1 + y].map V.int, d, _, rfl, rfl, SqT.of (s3 _ _ upd_same), hv, ?_⟩
    exact q v H3 v1 v2 (s1.trans (s2.trans ((same_upd nt).trans s3)))
end
end TA
set_option Elab.async false
set_option linter.all false
set_option maxRecDepth 100000
set_option maxHeartbeats 4000000
namespace TA
open PySem PySem.Spec PyProof.Rows L2
theorem below_le {f : Int} {n : Nat} {N : Int} : (below f n N).length ≤ n + 1 := by
  have := List.length_filter_le (fun y => decide (y ≤ N)) (row f n)
  rw [row_length] at this
  exact this
section
variable {P : Program} {w : World} {K : PySem.W.Frag} {mg : Str → Option Value} {base : Heap}
/-! ### _law_steps -/
def spSteps : Sp := fun vs H Q _ => ∃ (f N : Int), vs = [.int f, .int N] ∧ 1 ≤ f ∧ f ≤ 30 ∧ N < Bd ∧
  ∀ (n : Nat) (r : Addr) (H' : Hp), N < st f n → n ≤ 9000 → Same H H' → H r = none → H' r = some (.lst ((below f n N).map V.int)) → Q (.ref r) H'
theorem scSteps : FnScope ["_law_factor_here", "_law_number", "_law_found", "_law_at", nStp] ["_law_factor_here", "_law_number"] (defScope sSteps) := ⟨rfl, rfl, rfl, by decide +kernel, rfl, by decide +kernel, by decide +kernel⟩
theorem filter_take {p : Int → Bool} {l : List Int} {i : Nat} {u : Int} (h : l[i]? = some u) : (l.take (i + 1)).filter p = (l.take i).filter p ++ (if p u = true then [u] else []) := by
  rw [List.take_add_one, h, List.filter_append]
  congr 1
  by_cases c : p u = true
  · simp [c]
  · simp [c]
theorem ok_steps {f : Addr} {fd : FuncData} (F : Fun K "_law_steps" "_law_steps" sSteps f fd) :
    FnOk P w K mg base CX0 1 f fd ["_law_factor_here", "_law_number"] spSteps := by
  refine F.ok scSteps (fun vs H Q E h => ?_) (fun cdv A outer s H vs Q E hr h => ?_)
  · obtain ⟨f, N, rfl, _⟩ := h
    rfl
  · obtain ⟨f, N, rfl, h1, h30, hB, q⟩ := h
    refine ⟨_, pss_cons (ps_par (i := 2) (j := 3) (by rfl) scSteps.nd rfl rfl (by decide) rfl rfl (pa_cons (pe_lst (pa_cons pe_int pa_nil)) (pa_cons pe_int pa_nil)) (by rfl))
      (pss_cons (ps_while PassesOwn.never (pt_cmpR op_le (pe_ix ix_list (pv 2) (pe_un un_neg pe_int) (fun _ _ => rfl)) (pv 1) (nomark _))
        (pss_cons (ps_while PassesOwn.never (pt_cmpR op_lt (pe_op op_mul (pv 0) (pe_ix ix_list (pv 2) (pv 3) (fun _ _ => rfl))) (pe_ix ix_list (pv 2) (pe_un un_neg pe_int) (fun _ _ => rfl)) (nomark _))
          (pss_one (ps_set (i := 3) scSteps.nd rfl (Or.inl rfl) (pe_op op_add (pv 3) pe_int))))
        (pss_one (ps_expr (pe_bm PySem.F.plainAttrs_list PySem.F.slot_list_append PySem.F.type_list_append mt_append (pv 2) (pa_cons (pe_op op_add (pe_ix ix_list (pv 2) (pe_un un_neg pe_int) (fun _ _ => rfl)) (pe_ix ix_list (pv 2) (pv 3) (fun _ _ => rfl))) pa_nil))))))
      (pss_one (ps_ret (pe_lc (own := [(nStp, 4)]) (g := gName 4) (by rfl) scSteps.nd (pi_list (pv 2)) (blkOk_by (own := [(nStp, 4)]) (N := ["_law_factor_here", "_law_number", "_law_found", "_law_at", nStp]) (sc := defScope sSteps) (by decide +kernel))
        (fun _ _ _ _ _ => pg_name (i := 4) scSteps.nd rfl (Or.inl rfl)) (fun _ _ _ _ _ => pts_one (pt_cmpR op_le (pv 4) (pv 1) (nomark _))) (fun _ _ _ _ _ => pv 4))))), ?_⟩
    refine ⟨(by show 1 ≤ sizeLine; decide), fun r nr => ?_⟩
    refine ⟨_, _, rfl, ?_⟩
    refine ⟨fun m σ H' => ∃ (n : Nat) (p : Int), σ = [some (.int f), some (.int N), some (.ref r), some (.int p), none] ∧ Same H H' ∧ H' r = some (.lst (rowV f n)) ∧ Place f n p ∧ n ≤ 9000 ∧ m = (N + 1 - st f n).toNat, ⟨_, 0, 0, rfl, same_upd nr, upd_same, place_zero f, Nat.zero_le _, rfl⟩, ?_⟩
    rintro m σ H' ⟨n, p, rfl, sm, hR, hp, hn, rfl⟩
    have hL : SqL K H' r (rowV f n) := SqL.of hR
    refine ⟨.ref r, rfl, 1, rfl, r, _, _, _, rfl, rfl, hL, rowV_last f n, .int N, rfl, _, _, rfl, rfl, _, rfl, ?_⟩
    refine ite2 (fun c => ?_) (fun c => ?_)
    · have hz : st f n ≤ N := of_decide_eq_true c
      have hn2 := num_of h1 h30 hz hB
      have hlt := st_lt h1 n
      refine ⟨fun σ' H'' => ∃ p', σ' = [some (.int f), some (.int N), some (.ref r), some (.int p'), none] ∧ H'' = upd H' r (.lst (rowV f (n + 1))) ∧ Place f (n + 1) p', ?_, ?_⟩
      · rintro σ' H'' ⟨p', rfl, rfl, hp'⟩
        exact ⟨(N + 1 - st f (n + 1)).toNat, by omega, n + 1, p', rfl, same_new sm nr, upd_same, hp', by omega, rfl⟩
      · refine ⟨fun m σ H'' => H'' = H' ∧ ∃ p : Int, σ = [some (.int f), some (.int N), some (.ref r), some (.int p), none] ∧ Place f n p ∧ p + m = n, ?_, ?_⟩
        · obtain ⟨x, _, a0, a1, _⟩ := place_at h1 hp
          exact ⟨(n - p).toNat, rfl, p, rfl, hp, by omega⟩
        · rintro m σ H'' ⟨rfl, p, rfl, hp, em⟩
          obtain ⟨x, hx, p0, pn, more, last⟩ := place_at h1 hp
          have gx : atI (rowV f n) p = some (.int x) := vat p0 hx
          refine ⟨.int f, rfl, .ref r, rfl, .int p, rfl, r, _, _, _, rfl, rfl, hL, gx, f, x, rfl, rfl, .inl (f_small h1 h30), .ref r, rfl, 1, rfl, r, _, _, _, rfl, rfl, hL, rowV_last f n, _, _, rfl, rfl, _, rfl, ?_⟩
          refine ite2 (fun c => ?_) (fun c => ?_)
          · obtain ⟨hp', plt⟩ := more (of_decide_eq_true c)
            refine ⟨fun σ' H3 => H3 = H'' ∧ σ' = [some (.int f), some (.int N), some (.ref r), some (.int (p + 1)), none], fun σ' H3 ⟨e1, e2⟩ => ⟨m - 1, by omega, e1, p + 1, e2, hp', by omega⟩, ?_⟩
            exact ⟨_, rfl, _, _, rfl, rfl, rfl, rfl⟩
          · obtain ⟨en, hp'⟩ := last (of_decide_eq_false (Bool.eq_false_iff.mpr c))
            refine ⟨.ref r, rfl, .inl ⟨rfl, _, hL⟩, .ref r, rfl, 1, rfl, r, _, _, _, rfl, rfl, hL, rowV_last f n, .ref r, rfl, .int p, rfl, r, _, _, _, rfl, rfl, hL, gx, st f n, x, rfl, rfl, r, _, _, rfl, rfl, hR, ?_, p, rfl, ?_, hp'⟩
            · rw [rowV_length]
              exact small_line (by omega)
            · rw [rowV_succ, st_succ, en]
    · have hz : ¬ st f n ≤ N := of_decide_eq_false (Bool.eq_false_iff.mpr c)
      refine ⟨.ref r, rfl, r, rfl, ⟨_, hL⟩, fun D nD => ?_⟩
      have nrD : r ≠ D := ne_of_none hR nD
      refine lc_list (K := K) (a := r) (xs := rowV f n) (fun i H'' => Same H H'' ∧ H'' r = some (.lst (rowV f n)) ∧ H'' D = some (.lst ((((row f n).take i).filter (fun y => decide (y ≤ N))).map V.int))) ?_ ?_ ?_ ?_
      · exact ⟨same_new sm (sm.free nD), by rw [upd_ne nrD]; exact hR, upd_same⟩
      · rintro i H'' _ ⟨_, e, _⟩
        exact SqL.of e
      · rintro i y H'' hi ⟨sm2, hR2, hD2⟩
        obtain ⟨u, hu, rfl⟩ := item_of hi
        have hlt : i < (row f n).length := (List.getElem?_eq_some_iff.mp hu).1
        rw [row_length] at hlt
        refine ⟨rfl, _, rfl, _, rfl, u, N, rfl, rfl, _, rfl, ?_⟩
        rw [filter_take hu]
        refine ite2 (fun c => ?_) (fun c => ?_)
        · refine ⟨_, rfl, _, hD2, ?_, same_new sm2 (sm.free nD), by rw [upd_ne nrD]; exact hR2, ?_⟩
          · rw [List.length_map]
            refine small_line (Nat.le_trans (List.length_filter_le _ _) ?_)
            rw [List.length_take]
            omega
          · rw [upd_same, if_pos c, List.map_append]
            rfl
        · exact ⟨sm2, hR2, by rw [if_neg c, List.append_nil]; exact hD2⟩
      · rintro H'' ⟨sm2, hR2, hD2⟩
        rw [rowV_length, List.take_of_length_le (by rw [row_length]; exact Nat.le_refl _)] at hD2
        exact q n D H'' (by omega) hn sm2 (sm.free nD) hD2
/-! ### _law_parts -/
def spParts : Sp := fun vs H Q _ => ∃ (f h : Int), vs = [.int f, .int h] ∧ 1 ≤ f ∧ f ≤ 30 ∧ 0 ≤ h ∧ h < Bd ∧
  ∀ (r : Addr) (H' : Hp), (parts f h).length ≤ 9001 → Same H H' → H r = none → H' r = some (.lst ((parts f h).map V.int)) → Q (.ref r) H'
theorem scParts : FnScope ["_law_factor_here", "_law_heap_here", "_law_found", nStp] ["_law_factor_here", "_law_heap_here"] (defScope sParts) := ⟨rfl, rfl, rfl, by decide +kernel, rfl, by decide +kernel, by decide +kernel⟩
theorem gr_below {f : Int} (h1 : 1 ≤ f) {n : Nat} {h : Int} (h0 : 0 ≤ h) (hz : h < st f n) : gr (below f n h).reverse h = parts f h := by
  unfold below row
  rw [← List.filter_reverse, List.reverse_reverse, gr_filter _ _ _ (Int.le_refl h) (fun y hy => by have := (row_facts h1 n).1 y hy; omega)]
  exact parts_of h1 h0 hz
theorem ok_parts {f fS : Addr} {fd fdS : FuncData} (F : Fun K "_law_parts" "_law_parts" sParts f fd)
    (GS : FnOk P w K mg base CX0 1 fS fdS ["_law_factor_here", "_law_number"] spSteps) (kS : PySem.W.keepIn K (.ref fS) = true) (bS : Binds K fdS ["_law_factor_here", "_law_number"] []) (gS : mg "_law_steps" = some (.ref fS)) :
    FnOk P w K mg base CX0 2 f fd ["_law_factor_here", "_law_heap_here"] spParts := by
  refine F.ok scParts (fun vs H Q E h => ?_) (fun cdv A outer s H vs Q E hr h => ?_)
  · obtain ⟨f, h, rfl, _⟩ := h
    rfl
  · obtain ⟨f, h, rfl, h1, h30, h0, hB, q⟩ := h
    refine ⟨_, pss_cons (ps_set (i := 2) scParts.nd rfl (Or.inl rfl) (pe_lst pa_nil))
      (pss_cons (ps_for PassesOwn.never rfl (pi_list (pe_revL (pe_call GS hr (by rfl) gS kS bS .nil pass0 (pa_cons (pv 0) (pa_cons (pv 1) pa_nil))))) (pg_name (i := 3) scParts.nd rfl (Or.inl rfl))
        (pss_one (ps_if (pt_cmpR op_le (pv 3) (pv 1) (nomark _))
          (pss_cons (ps_expr (pe_bm PySem.F.plainAttrs_list PySem.F.slot_list_append PySem.F.type_list_append mt_append (pv 2) (pa_cons (pv 3) pa_nil)))
            (pss_one (ps_set (i := 1) scParts.nd rfl (Or.inl rfl) (pe_op op_sub (pv 1) (pv 3))))) pss_nil)))
      (pss_one (ps_ret (pv 2)))), ?_⟩
    refine ⟨Nat.zero_le _, fun p np => ?_⟩
    refine ⟨_, rfl, _, rfl, f, h, rfl, h1, h30, hB, fun n r H1 hz hn sm1 nr1 hR => ?_⟩
    refine ⟨r, _, rfl, SqL.of hR, fun t nt => ?_⟩
    have hp1 : H1 p = some (.lst []) := sm1 _ _ upd_same
    have hpt : p ≠ t := ne_of_none hp1 nt
    have sm0 : Same H H1 := (same_upd np).trans sm1
    have et : ((below f n h).map V.int).reverse = (below f n h).reverse.map V.int := (List.map_reverse).symm
    have hll : (below f n h).reverse.length ≤ 9001 := by
      rw [List.length_reverse]
      exact Nat.le_trans below_le (by omega)
    have eg0 := gr_below h1 h0 hz
    rw [et]
    revert hll eg0
    generalize (below f n h).reverse = L
    intro hll eg0
    refine ⟨t, rfl, ⟨_, SqL.of upd_same⟩, for_list (K := K) (a := t) (xs := L.map V.int) (fun i σ H' => ∃ (acc : List Int) (l : Int) (v : Option V), σ = [some (.int f), some (.int l), some (.ref p), v] ∧ Same H H' ∧ H' t = some (.lst (L.map V.int)) ∧
      H' p = some (.lst (acc.map V.int)) ∧ acc ++ gr (L.drop i) l = parts f h ∧ acc.length ≤ i) ?_ ?_ ?_ ?_⟩
    · exact ⟨[], h, none, rfl, sm0.trans (same_upd nt), upd_same, by rw [upd_ne hpt]; exact hp1, eg0, Nat.le_refl _⟩
    · rintro i σ H' _ ⟨_, _, _, _, _, hR', _⟩
      exact SqL.of hR'
    · rintro i x σ H' hx ⟨acc, l, v, rfl, sm, hR', hp', eg, hl⟩
      obtain ⟨z, hz', rfl⟩ := item_of hx
      obtain ⟨hi, ez⟩ := List.getElem?_eq_some_iff.mp hz'
      have ed : L.drop i = z :: L.drop (i + 1) := by rw [List.drop_eq_getElem_cons hi, ez]
      refine ⟨.int z, rfl, .int l, rfl, z, l, rfl, rfl, _, rfl, ?_⟩
      rw [ed] at eg
      refine ite2 (fun c => ?_) (fun c => ?_)
      · have c' : z ≤ l := of_decide_eq_true c
        refine ⟨.ref p, rfl, .inl ⟨rfl, _, SqL.of hp'⟩, .int z, rfl, p, _, _, rfl, rfl, hp', ?_, ?_⟩
        · rw [List.length_map]
          exact small_line (by omega)
        · refine ⟨_, rfl, .int z, rfl, l, z, rfl, rfl, acc ++ [z], l - z, _, rfl, same_new sm np, ?_, ?_, ?_, ?_⟩
          · rw [upd_ne (Ne.symm hpt)]; exact hR'
          · rw [upd_same, List.map_append]; rfl
          · rw [gr_pos c'] at eg
            rw [← eg, List.append_assoc]; rfl
          · rw [List.length_append, List.length_singleton]; omega
      · have c' : ¬ z ≤ l := of_decide_eq_false (Bool.eq_false_iff.mpr c)
        refine ⟨acc, l, _, rfl, sm, hR', hp', ?_, by omega⟩
        rw [gr_neg c'] at eg
        exact eg
    · rintro σ H' ⟨acc, l, v, rfl, sm, hR', hp', eg, hl⟩
      rw [List.length_map] at eg hl
      rw [List.drop_length, gr_nil, List.append_nil] at eg
      subst eg
      exact ⟨.ref p, rfl, q p H' (by omega) sm np hp'⟩
end
end TA
set_option Elab.async false
set_option linter.all false
set_option maxRecDepth 100000
set_option maxHeartbeats 4000000
namespace TA
open PySem PySem.Spec PyProof.Rows L2
abbrev HB : Int := 10 ^ 42
theorem below_mem {f : Int} (h1 : 1 ≤ f) {n : Nat} {N y : Int} (h : y ∈ below f n N) : 1 ≤ y ∧ y ≤ N := by
  unfold below row at h
  obtain ⟨a, b⟩ := List.mem_filter.mp h
  exact ⟨(row_facts h1 n).1 y (List.mem_reverse.mp a), of_decide_eq_true b⟩
theorem below_ne {f : Int} {n : Nat} {N : Int} (h : 1 ≤ N) : below f n N ≠ [] := by
  have hm : (1 : Int) ∈ below f n N := by
    unfold below row
    refine List.mem_filter.mpr ⟨List.mem_reverse.mpr ?_, decide_eq_true h⟩
    induction n with
    | zero => exact List.mem_cons_self
    | succ n ih => rw [rowR_succ]; exact List.mem_cons_of_mem _ ih
  intro e
  rw [e] at hm
  cases hm
theorem three_at {x d : Int} (d0 : 0 ≤ d) (d1 : d < 3) {B : Int} (x0 : 0 ≤ x) (x1 : x ≤ B) (hB : 1 ≤ B) : ∃ v, atI ([0, 1, x].map V.int) d = some (.int v) ∧ 0 ≤ v ∧ v ≤ B := by
  have hd : d.toNat = 0 ∨ d.toNat = 1 ∨ d.toNat = 2 := by omega
  rcases hd with e | e | e
  · exact ⟨0, vat d0 (by rw [e]; rfl), by omega, by omega⟩
  · exact ⟨1, vat d0 (by rw [e]; rfl), by omega, by omega⟩
  · exact ⟨x, vat d0 (by rw [e]; rfl), by omega, by omega⟩
theorem limit_at {d : Int} (d0 : 0 ≤ d) (d1 : d < 3) : ∃ v, atI ([20, 300, 900000].map V.int) d = some (.int v) ∧ 0 < v ∧ v ≤ 1000000 := by
  have hd : d.toNat = 0 ∨ d.toNat = 1 ∨ d.toNat = 2 := by omega
  rcases hd with e | e | e
  · exact ⟨20, vat d0 (by rw [e]; rfl), by omega, by omega⟩
  · exact ⟨300, vat d0 (by rw [e]; rfl), by omega, by omega⟩
  · exact ⟨900000, vat d0 (by rw [e]; rfl), by omega, by omega⟩
theorem bits_zero : Bits 0 := by unfold Bits; decide
section
variable {P : Program} {w : World} {K : PySem.W.Frag} {mg : Str → Option Value} {base : Heap}
/-! ### _law_heap -/
def spHeap (K : PySem.W.Frag) : Sp := fun vs H Q _ => ∃ (a : Addr) (ns : List Int) (k f : Int), vs = [.ref a, .int k, .int f] ∧ SqL K H a (ns.map V.int) ∧ (∀ z ∈ ns, Bits z) ∧ 0 ≤ k ∧ k ≤ 900 ∧ 1 ≤ f ∧ f ≤ 30 ∧ ∀ v H', 0 ≤ v → v < HB → Same H H' → Q (.int v) H'
theorem scHeap : FnScope ["_law_script", "_law_k", "_law_factor_here", "_law_cell", "_law_kind", "_law_found", "_law_steps_here"] ["_law_script", "_law_k", "_law_factor_here"] (defScope sHeap) := ⟨rfl, rfl, rfl, by decide +kernel, rfl, by decide +kernel, by decide +kernel⟩
theorem ok_heap {f fD fA fV fS : Addr} {fd fdD fdA fdV fdS : FuncData} (F : Fun K "_law_heap" "_law_heap" sHeap f fd) (FD : Fun K "_law_draw" "_law_draw" sDraw fD fdD) (bD : Binds K fdD ["_law_cell", "_law_k", "_law_many"] []) (gD : mg "_law_draw" = some (.ref fD))
    (FA : Fun K "_law_cell_at" "_law_cell_at" sCellAt fA fdA) (bA : Binds K fdA ["_law_script", "_law_k"] []) (gA : mg "_law_cell_at" = some (.ref fA))
    (FV : Fun K "_law_value" "_law_value" sValue fV fdV) (bV : Binds K fdV ["_law_cell", "_law_k", "_law_limit"] []) (gV : mg "_law_value" = some (.ref fV))
    (GS : FnOk P w K mg base CX0 1 fS fdS ["_law_factor_here", "_law_number"] spSteps) (kS : PySem.W.keepIn K (.ref fS) = true) (bS : Binds K fdS ["_law_factor_here", "_law_number"] []) (gS : mg "_law_steps" = some (.ref fS)) (ml : mg "len" = none) :
    FnOk P w K mg base CX0 3 f fd ["_law_script", "_law_k", "_law_factor_here"] (spHeap K) := by
  have GD : FnOk P w K mg base CX0 1 fD fdD ["_law_cell", "_law_k", "_law_many"] spDraw := ok_draw FD
  have GA : FnOk P w K mg base CX0 1 fA fdA ["_law_script", "_law_k"] (spCellAt K) := ok_cell_at FA ml
  have GV : FnOk P w K mg base CX0 2 fV fdV ["_law_cell", "_law_k", "_law_limit"] spValue := ok_value FV FD bD gD
  refine F.ok scHeap (fun vs H Q E h => ?_) (fun cdv A outer s H vs Q E hr h => ?_)
  · obtain ⟨c, k, m, _, rfl, _⟩ := h
    rfl
  · obtain ⟨a, ns, k, f, rfl, hS, hb, k0, k1, h1, h30, q⟩ := h
    have hr1 : Room 1 _ := hr.mono (by decide)
    refine ⟨_, pss_cons (ps_set (i := 3) scHeap.nd rfl (Or.inl rfl) (pe_call GA hr1 (by rfl) gA FA.kp bA .nil pass0 (pa_cons (pv 0) (pa_cons (pe_op op_add (pv 1) pe_int) pa_nil))))
      (pss_cons (ps_set (i := 4) scHeap.nd rfl (Or.inl rfl) (pe_call GD hr1 (by rfl) gD FD.kp bD .nil pass0 (pa_cons (pe_op op_add (pe_op op_mod (pv 3) (pe_op op_pow pe_int pe_int)) (pv 1)) (pa_cons pe_int (pa_cons pe_int pa_nil)))))
      (pss_cons (ps_set (i := 5) scHeap.nd rfl (Or.inl rfl) (pe_call GV hr (by rfl) gV FV.kp bV .nil pass0 (pa_cons (pv 3) (pa_cons (pe_op op_add (pv 1) pe_int)
          (pa_cons (pe_ix ix_tup (pe_tup (pa_cons pe_int (pa_cons pe_int (pa_cons pe_int pa_nil)))) (pe_call GD hr1 (by rfl) gD FD.kp bD .nil pass0 (pa_cons (pe_op op_mod (pv 3) (pe_op op_pow pe_int pe_int)) (pa_cons pe_int (pa_cons pe_int pa_nil)))) (fun _ _ => rfl)) pa_nil)))))
      (C8.pss_cut (ps_set (i := 5) scHeap.nd rfl (Or.inl rfl) (pe_ifExp (pt_cmpR op_lt (pv 2) pe_int (nomark _)) (pv 5) (pe_op op_mod (pv 5) (pe_op op_pow pe_int pe_int))))
      (pss_cons (ps_if (pt_cmpR op_gt (pv 4) pe_int (nomark _))
        (pss_cons (ps_set (i := 6) scHeap.nd rfl (Or.inl rfl) (pe_call GS hr1 (by rfl) gS kS bS .nil pass0 (pa_cons (pv 2) (pa_cons (pe_op op_add (pv 5) pe_int) pa_nil))))
        (pss_one (ps_set (i := 5) scHeap.nd rfl (Or.inl rfl) (pe_op op_add (pe_ix ix_list (pv 6) (pe_un un_neg pe_int) (fun _ _ => rfl))
          (pe_ix ix_tup (pe_tup (pa_cons pe_int (pa_cons pe_int (pa_cons (pe_ix ix_list (pv 6) (pe_op op_fdiv (pe_callB call_len_seq (by rfl) ml PySem.boot_len (pa_cons (pv 6) pa_nil)) pe_int) (fun _ _ => rfl)) pa_nil)))) (pe_op op_sub (pv 4) pe_int) (fun _ _ => rfl)))))) pss_nil)
      (pss_one (ps_ret (pv 5))))))), ?_⟩
    refine ⟨_, rfl, _, rfl, _, _, rfl, rfl, a, ns, k + 1, rfl, hS, by omega, fun c hc => ?_⟩
    have cB : Bits c := by
      rcases hc with e | e
      · rw [e]; exact bits_zero
      · exact hb c e
    have P18 : (0 : Int) ≤ 18 ∧ (18 : Int) ≤ 1000000 ∧ (10 : Int).natAbs < 2 ^ 64 := by decide
    have P12 : (0 : Int) ≤ 12 ∧ (12 : Int) ≤ 1000000 ∧ (10 : Int).natAbs < 2 ^ 64 := by decide
    have p18 : (0 : Int) < 10 ^ 18 := by decide
    have p12 : (0 : Int) < 10 ^ 12 := by decide
    refine ⟨_, rfl, 10, 18, rfl, rfl, P18, _, _, rfl, rfl, p18, _, rfl, _, _, rfl, rfl, _, 8, 6, rfl, by decide, fun kd H1 kd0 kd1 s1 => ?_⟩
    refine ⟨_, rfl, _, rfl, _, _, rfl, rfl, (by show 3 ≤ sizeLine; decide), fun t nt => ?_⟩
    refine ⟨_, rfl, 10, 18, rfl, rfl, P18, _, _, rfl, rfl, p18, _, 7, 3, rfl, by decide, fun d H2 d0 d1 s2 => ?_⟩
    obtain ⟨lm, hlm, lm0, lm1⟩ := limit_at d0 d1
    refine ⟨t, _, d, _, rfl, rfl, SqT.of (s2 _ _ upd_same), hlm, ?_⟩
    refine ⟨c, k + 2, lm, rfl, cB, by omega, by omega, lm0, lm1, fun v H3 v0 v1 s3 => ?_⟩
    have sA : Same H H3 := s1.trans ((same_upd nt).trans (s2.trans s3))
    -- the two ways of the conditional expression meet: found, from 0 on, below T40
    refine ⟨fun σ' H' => H' = H3 ∧ ∃ g : Int, 0 ≤ g ∧ g < T40 ∧ σ' = [some (.ref a), some (.int k), some (.int f), some (.int c), some (.int kd), some (.int g), none], ?_, ?_⟩
    · refine ⟨_, rfl, _, _, rfl, rfl, _, rfl, ?_⟩
      refine ite2 (fun _ => ?_) (fun _ => ?_)
      · exact ⟨_, rfl, rfl, v, v0, v1, rfl⟩
      · refine ⟨_, rfl, 10, 12, rfl, rfl, P12, _, _, rfl, rfl, p12, rfl, v % 10 ^ 12, Int.emod_nonneg _ (by decide), ?_, rfl⟩
        have z1 := Int.emod_lt_of_pos v p12
        have z2 : (10 : Int) ^ 12 < T40 := by decide
        exact Int.lt_trans z1 z2
    rintro σ' H' ⟨rfl, g, g0, g1, rfl⟩
    refine ⟨_, rfl, kd, 2, rfl, rfl, _, rfl, ?_⟩
    have hbb : T40 < HB := by decide
    refine ite2 (fun z => ?_) (fun _ => ?_)
    · have z' : kd > 2 := of_decide_eq_true z
      have hBd : T40 + 1 < Bd := by decide +kernel
      refine ⟨_, rfl, _, rfl, _, _, rfl, rfl, f, g + 1, rfl, h1, h30, by omega, fun n r H4 _ hn s4 nr hR => ?_⟩
      have hne := below_ne (f := f) (n := n) (N := g + 1) (by omega)
      have hmem := fun y (h : y ∈ below f n (g + 1)) => below_mem h1 h
      revert hR hne hmem
      generalize below f n (g + 1) = L
      intro hR hne hmem
      have hlen : 0 < L.length := List.length_pos_iff.mpr hne
      have gl : atI (L.map V.int) (-1) = some (.int (L.getLast hne)) := vlast (List.dropLast_concat_getLast hne).symm
      have hmid : L.length / 2 < L.length := by omega
      have gm : atI (L.map V.int) (((L.map V.int).length : Int) / 2) = some (.int L[L.length / 2]) := by
        rw [List.length_map]
        exact vat (by omega) (by
          have e : (((L.length : Nat) : Int) / 2).toNat = L.length / 2 := by omega
          rw [e]
          exact List.getElem?_eq_getElem hmid)
      have m1 := hmem _ (List.getLast_mem hne)
      have m2 := hmem _ (List.getElem_mem hmid)
      have hL := SqL.of (K := K) hR
      refine ⟨.ref r, rfl, 1, rfl, r, _, _, _, rfl, rfl, hL, gl, ?_⟩
      refine ⟨.ref r, rfl, .ref r, rfl, r, _, rfl, .inl hL, _, 2, rfl, rfl, ⟨by decide, by decide⟩, r, _, _, _, rfl, rfl, hL, gm, (by show 3 ≤ sizeLine; decide), fun u nu => ?_⟩
      obtain ⟨v2, hv2, w0, w1⟩ := three_at (x := L[L.length / 2]) (d := kd - 3) (B := g + 1) (by omega) (by omega) (by omega) m2.2 (by omega)
      refine ⟨_, rfl, kd, 3, rfl, rfl, u, _, kd - 3, _, rfl, rfl, SqT.of upd_same, hv2, _, _, rfl, rfl, ?_⟩
      refine ⟨_, rfl, q _ _ (by omega) ?_ (sA.trans (s4.trans (same_upd nu)))⟩
      have e : 2 * T40 + 2 < HB := by decide
      omega
    · exact ⟨_, rfl, q g _ g0 (by omega) sA⟩
/-! ### _law_whole -/
def spLWhole : Sp := fun vs H Q _ => ∃ n : Int, vs = [.int n] ∧ Q (.bl true) H
theorem scLWhole : FnScope ["_law_number"] ["_law_number"] (defScope sLWhole) := ⟨rfl, rfl, rfl, by decide +kernel, rfl, by decide +kernel, by decide +kernel⟩
theorem ok_lwhole {f : Addr} {fd : FuncData} (F : Fun K "_law_whole" "_law_whole" sLWhole f fd) (mI : mg "isinstance" = none) (mi : mg "int" = none) (mb : mg "bool" = none) :
    FnOk P w K mg base CX0 1 f fd ["_law_number"] spLWhole := by
  refine F.ok scLWhole (fun vs H Q E h => ?_) (fun cdv A outer s H vs Q E hr h => ?_)
  · obtain ⟨n, rfl, _⟩ := h
    rfl
  · obtain ⟨n, rfl, q⟩ := h
    refine ⟨_, pss_one (ps_ret (pe_and (pe_callB call_isi (by rfl) mI (by decide +kernel) (pa_cons (pv 0) (pa_cons (pe_bltn (v := .ty "int") (by rfl) mi (by decide +kernel) rfl) pa_nil)))
      (pe_one (pe_not (pe_callB call_isi (by rfl) mI (by decide +kernel) (pa_cons (pv 0) (pa_cons (pe_bltn (v := .ty "bool") (by rfl) mb (by decide +kernel) rfl) pa_nil))))))), ?_⟩
    refine ⟨_, rfl, .int n, .ty "int", .type "int", .type "int", true, rfl, .ty _, .base (.int n), kit_ty (by decide +kernel), _, rfl, ?_⟩
    refine iteT ⟨_, rfl, .int n, .ty "bool", .type "int", .type "bool", false, rfl, .ty _, .base (.int n), kit_ty (by decide +kernel), _, rfl, ?_⟩
    exact q
end
end TA
set_option Elab.async false
set_option linter.all false
set_option maxRecDepth 100000
set_option maxHeartbeats 4000000
namespace TA
open PySem PySem.Spec PyProof.Rows L2
def isSumB (f : Int) (ns : List Int) : Bool := (ns.all fun n => decide (0 < n)) && decide (ns = parts f ns.sum)
theorem max2 {i j : Int} : (if j > i then j else i) = max i j := by
  by_cases c : j > i
  · rw [if_pos c]; omega
  · rw [if_neg c]; omega
section
variable {P : Program} {w : World} {K : PySem.W.Frag} {mg : Str → Option Value} {base : Heap}
/-! ### _law_limits -/
def spLimits : Sp := fun vs H Q _ => ∃ (f h : Int), vs = [.int f, .int h] ∧ 1 ≤ f ∧ f ≤ 30 ∧ 0 ≤ h ∧ h < Bd ∧
  ∀ (r : Addr) (H' : Hp) (ns : List Int), ns.length ≤ 7 → (∀ n ∈ ns, 0 ≤ n ∧ n ≤ max h 1) → Same H H' → H r = none → H' r = some (.lst (ns.map V.int)) → Q (.ref r) H'
abbrev nLimits : List Str := ["_law_factor_here", "_law_heap_here", "_law_parts_here", "_law_least", "_law_found"]
theorem scLimits : FnScope nLimits ["_law_factor_here", "_law_heap_here"] (defScope sLawLimits) := ⟨rfl, rfl, rfl, by decide +kernel, rfl, by decide +kernel, by decide +kernel⟩
theorem ok_limits {f fP : Addr} {fd fdP : FuncData} (F : Fun K "_law_limits" "_law_limits" sLawLimits f fd)
    (GP : FnOk P w K mg base CX0 2 fP fdP ["_law_factor_here", "_law_heap_here"] spParts) (kP : PySem.W.keepIn K (.ref fP) = true) (bP : Binds K fdP ["_law_factor_here", "_law_heap_here"] []) (gP : mg "_law_parts" = some (.ref fP))
    (ml : mg "len" = none) (mm : mg "max" = none) :
    FnOk P w K mg base CX0 3 f fd ["_law_factor_here", "_law_heap_here"] spLimits := by
  refine F.ok scLimits (fun vs H Q E h => ?_) (fun cdv A outer s H vs Q E hr h => ?_)
  · obtain ⟨f, h, rfl, _⟩ := h
    rfl
  · obtain ⟨f, h, rfl, h1, h30, h0, hB, q⟩ := h
    refine ⟨_, pss_cons (ps_set (i := 2) scLimits.nd rfl (Or.inl rfl) (pe_op op_cat (pe_call GP hr (by rfl) gP kP bP .nil pass0 (pa_cons (pv 0) (pa_cons (pv 1) pa_nil))) (pe_lst (pa_cons pe_int pa_nil))))
      (pss_cons (ps_set (i := 3) scLimits.nd rfl (Or.inl rfl) (pe_ix ix_list (pv 2) (pe_callB (call_max2 rfl) (by rfl) mm (by decide +kernel) (pa_cons pe_int (pa_cons (pe_op op_sub (pe_callB call_len_seq (by rfl) ml (by decide +kernel) (pa_cons (pv 2) pa_nil)) pe_int) pa_nil))) (fun _ _ => rfl)))
      (pss_cons (ps_set (i := 4) scLimits.nd rfl (Or.inl rfl) (pe_lst (pa_cons (pv 3) (pa_cons (pe_op op_sub (pv 3) pe_int) (pa_cons (pv 1) (pa_cons (pe_callB (call_max2 rfl) (by rfl) mm (by decide +kernel) (pa_cons pe_int (pa_cons (pe_op op_sub (pv 1) pe_int) pa_nil))) pa_nil))))))
      (pss_one (ps_ret (pe_ifExp (pt_cmpR op_gt (pv 0) pe_int (nomark _)) (pv 4) (pe_op op_cat (pv 4) (pe_lst (pa_cons pe_int (pa_cons pe_int (pa_cons (pe_ix ix_list (pv 2) pe_int (fun _ _ => rfl)) pa_nil)))))))))), ?_⟩
    refine ⟨_, rfl, _, rfl, f, h, rfl, h1, h30, h0, hB, fun r H1 hlen s1 nr hR => ?_⟩
    refine ⟨(by show 1 ≤ sizeLine; decide), fun u nu => ?_⟩
    have nru : r ≠ u := ne_of_none hR nu
    have hmem := fun y (hy : y ∈ parts f h) => parts_mem h1 y hy
    revert hR hlen hmem
    generalize parts f h = L
    intro hlen hR hmem
    refine ⟨r, u, _, _, rfl, rfl, by rw [upd_ne nru]; exact hR, upd_same, ?_, fun p np => ?_⟩
    · rw [List.length_map]
      exact Nat.le_of_lt (small_line (by show L.length + 1 ≤ 1000000; omega))
    have sp : Same H1 (upd (upd H1 u (.lst [.int 1])) p (.lst (L.map V.int ++ [.int 1]))) := (same_upd nu).trans (same_upd np)
    have hp0 : (upd (upd H1 u (.lst [.int 1])) p (.lst (L.map V.int ++ [.int 1]))) p = some (.lst ((L ++ [1]).map V.int)) := by rw [upd_same, List.map_append]; rfl
    generalize upd (upd H1 u (.lst [.int 1])) p (.lst (L.map V.int ++ [.int 1])) = H2 at sp hp0
    have np0 : H p = none := s1.free ((same_upd nu).free np)
    have hall : ∀ y ∈ L ++ [1], 1 ≤ y ∧ y ≤ max h 1 := fun y hy => by
      rcases List.mem_append.mp hy with e | e
      · have := hmem y e
        omega
      · have e1 := List.mem_singleton.mp e
        omega
    have hne : 0 < (L ++ [1]).length := by rw [List.length_append]; exact Nat.succ_pos _
    have hl2 : (L ++ [1]).length = L.length + 1 := by rw [List.length_append]; rfl
    revert hp0 hall hne hl2
    generalize L ++ [1] = M
    intro hp0 hall hne hl2
    have hL := SqL.of (K := K) hp0
    -- least
    obtain ⟨least, hle, hg⟩ : ∃ least, (1 ≤ least ∧ least ≤ max h 1) ∧ atI (M.map V.int) (if ((M.map V.int).length : Int) - 2 > 0 then ((M.map V.int).length : Int) - 2 else 0) = some (.int least) := by
      rw [max2, List.length_map]
      have e : (max (0 : Int) ((M.length : Int) - 2)).toNat < M.length := by omega
      exact ⟨M[(max (0 : Int) ((M.length : Int) - 2)).toNat], hall _ (List.getElem_mem e), vat (by omega) (List.getElem?_eq_getElem e)⟩
    refine ⟨.ref p, rfl, .ref p, rfl, p, _, rfl, .inl hL, _, 2, rfl, rfl, _, _, rfl, p, _, _, _, rfl, rfl, hL, hg, ?_⟩
    -- found
    refine ⟨.int least, rfl, .int least, rfl, least, 1, rfl, rfl, .int h, rfl, .int h, rfl, h, 1, rfl, rfl, _, _, rfl, (by show 4 ≤ sizeLine; decide), fun g ng => ?_⟩
    rw [max2]
    have ngp : p ≠ g := ne_of_none hp0 ng
    refine ⟨.int f, rfl, f, 5, rfl, rfl, _, rfl, ?_⟩
    have sg : Same H (upd H2 g (.lst [.int least, .int (least - 1), .int h, .int (max 0 (h - 1))])) := s1.trans (sp.trans (same_upd ng))
    refine ite2 (fun _ => ?_) (fun _ => ?_)
    · refine ⟨_, rfl, q g _ [least, least - 1, h, max 0 (h - 1)] (by show 4 ≤ 7; decide) (fun n hn => ?_) sg (s1.free (sp.free ng)) (by rw [upd_same]; rfl)⟩
      simp only [List.mem_cons, List.not_mem_nil, or_false] at hn
      rcases hn with e | e | e | e <;> omega
    · have g0 : atI (M.map V.int) 0 = some (.int M[0]) := vat (by omega) (List.getElem?_eq_getElem hne)
      have m0 := hall _ (List.getElem_mem hne)
      refine ⟨.ref g, rfl, .ref p, rfl, p, _, 0, _, rfl, rfl, SqL.of (by rw [upd_ne ngp]; exact hp0), g0, (by show 3 ≤ sizeLine; decide), fun v nv => ?_⟩
      refine ⟨g, v, _, _, rfl, rfl, by rw [upd_ne (ne_of_none upd_same nv)]; exact upd_same, upd_same, (by show 7 ≤ sizeLine; decide), fun x nx => ?_⟩
      refine q x _ [least, least - 1, h, max 0 (h - 1), 0, 1, M[0]] (by show 7 ≤ 7; decide) (fun n hn => ?_) (sg.trans ((same_upd nv).trans (same_upd nx))) (sg.free ((same_upd nv).free nx)) (by rw [upd_same]; rfl)
      simp only [List.mem_cons, List.not_mem_nil, or_false] at hn
      rcases hn with e | e | e | e | e | e | e <;> omega
/-! ### _law_lost -/
def spLLost : Sp := fun vs H Q _ => ∃ (f h l : Int), vs = [.int f, .int h, .int l] ∧ 1 ≤ f ∧ f ≤ 30 ∧ 0 ≤ h ∧ h < Bd ∧ ∀ H', Same H H' → Q (.bl (lostB (parts f h) l)) H'
theorem scLLost : FnScope ["_law_factor_here", "_law_heap_here", "_law_limit", "_law_parts_here"] ["_law_factor_here", "_law_heap_here", "_law_limit"] (defScope sLawLost) := ⟨rfl, rfl, rfl, by decide +kernel, rfl, by decide +kernel, by decide +kernel⟩
theorem ok_llost {f fP : Addr} {fd fdP : FuncData} (F : Fun K "_law_lost" "_law_lost" sLawLost f fd)
    (GP : FnOk P w K mg base CX0 2 fP fdP ["_law_factor_here", "_law_heap_here"] spParts) (kP : PySem.W.keepIn K (.ref fP) = true) (bP : Binds K fdP ["_law_factor_here", "_law_heap_here"] []) (gP : mg "_law_parts" = some (.ref fP)) :
    FnOk P w K mg base CX0 3 f fd ["_law_factor_here", "_law_heap_here", "_law_limit"] spLLost := by
  refine F.ok scLLost (fun vs H Q E h => ?_) (fun cdv A outer s H vs Q E hr h => ?_)
  · obtain ⟨f, h, l, rfl, _⟩ := h
    rfl
  · obtain ⟨f, h, l, rfl, h1, h30, h0, hB, q⟩ := h
    refine ⟨_, pss_cons (ps_set (i := 3) scLLost.nd rfl (Or.inl rfl) (pe_call GP hr (by rfl) gP kP bP .nil pass0 (pa_cons (pv 0) (pa_cons (pv 1) pa_nil))))
      (pss_one (ps_ret (pe_or (pe_cmpR (op_eqL hr.units) (pv 3) (pe_lst pa_nil) (nomark _)) (pe_one (pe_cmpR op_gt (pe_ix ix_list (pv 3) (pe_un un_neg pe_int) (fun _ _ => rfl)) (pv 2) (nomark _)))))), ?_⟩
    refine ⟨_, rfl, _, rfl, f, h, rfl, h1, h30, h0, hB, fun r H1 hlen s1 nr hR => ?_⟩
    refine ⟨.ref r, rfl, Nat.zero_le _, fun u nu => ?_⟩
    have hR2 : (upd H1 u (.lst [])) r = some (.lst ((parts f h).map V.int)) := by rw [upd_ne (ne_of_none hR nu)]; exact hR
    refine ⟨r, u, _, [], rfl, rfl, SqL.of hR2, SqL.of upd_same, _, rfl, ?_⟩
    have q2 := q _ (s1.trans (same_upd (o := .lst []) nu))
    rcases cases_last (parts f h) with e | ⟨m, z, e⟩
    · rw [e] at q2 ⊢
      exact iteT q2
    · rw [e] at q2 hR2 ⊢
      rw [decide_eq_false (by simp)]
      rw [lostB_snoc] at q2
      exact iteF ⟨.ref r, rfl, 1, rfl, r, _, _, _, rfl, rfl, SqL.of hR2, vlast rfl, .int l, rfl, z, l, rfl, rfl, q2⟩
/-! ### _law_is_sum -/
def spIsSum (K : PySem.W.Frag) : Sp := fun vs H Q _ => ∃ (f : Int) (a : Addr) (ns : List Int), vs = [.int f, .ref a] ∧ 1 ≤ f ∧ f ≤ 30 ∧ H a = some (.lst (ns.map V.int)) ∧ ns.length ≤ 20000 ∧ ((∀ n ∈ ns, 0 < n) → ns.sum < Bd) ∧ ∀ H', Same H H' → Q (.bl (isSumB f ns)) H'
theorem scIsSum : FnScope ["_law_factor_here", "_law_parts_here", "_law_part"] ["_law_factor_here", "_law_parts_here"] (defScope sLawIsSum) := ⟨rfl, rfl, rfl, by decide +kernel, rfl, by decide +kernel, by decide +kernel⟩
theorem sum_nonneg : ∀ {ns : List Int}, (∀ n ∈ ns, 0 < n) → 0 ≤ ns.sum
  | [], _ => by decide
  | n :: ns, h => by
    rw [List.sum_cons]
    have h1 := h n List.mem_cons_self
    have h2 := sum_nonneg fun m hm => h m (List.mem_cons_of_mem _ hm)
    omega
theorem ok_is_sum {f fP fW : Addr} {fd fdP fdW : FuncData} (F : Fun K "_law_is_sum" "_law_is_sum" sLawIsSum f fd)
    (GP : FnOk P w K mg base CX0 2 fP fdP ["_law_factor_here", "_law_heap_here"] spParts) (kP : PySem.W.keepIn K (.ref fP) = true) (bP : Binds K fdP ["_law_factor_here", "_law_heap_here"] []) (gP : mg "_law_parts" = some (.ref fP))
    (GW : FnOk P w K mg base CX0 1 fW fdW ["_law_number"] spLWhole) (kW : PySem.W.keepIn K (.ref fW) = true) (bW : Binds K fdW ["_law_number"] []) (gW : mg "_law_whole" = some (.ref fW))
    (mI : mg "isinstance" = none) (mli : mg "list" = none) (ms : mg "sum" = none) (ma : mg "all" = none) :
    FnOk P w K mg base CX0 3 f fd ["_law_factor_here", "_law_parts_here"] (spIsSum K) := by
  refine F.ok scIsSum (fun vs H Q E h => ?_) (fun cdv A outer s H vs Q E hr h => ?_)
  · obtain ⟨f, a, ns, rfl, _⟩ := h
    rfl
  · obtain ⟨f, a, ns, rfl, h1, h30, ha, hlen, hsum, q⟩ := h
    have hr1 : Room 1 _ := hr.mono (by decide)
    refine ⟨_, pss_cons (ps_if (PW.pt (pw_or (pt_not (pt_val (pe_callB call_isi (by rfl) mI (by decide +kernel) (pa_cons (pv 1) (pa_cons (pe_bltn (v := .ty "list") (by rfl) mli (by decide +kernel) rfl) pa_nil)))))
        (pw_or1 (pt_not (pt_val (pe_callB (cr_all rfl) (by rfl) ma (by decide +kernel) (pa_cons
          (pe_lc (own := [("_law_part", 2)]) (g := gName 2) (tt := tYes) (by rfl) scIsSum.nd (pi_list (pv 1)) (blkOk_by (own := [("_law_part", 2)]) (N := ["_law_factor_here", "_law_parts_here", "_law_part"]) (sc := defScope sLawIsSum) (by decide +kernel))
            (fun _ _ _ _ _ => pg_name (i := 2) scIsSum.nd rfl (Or.inl rfl)) (fun _ _ _ _ _ => pts_nil) (fun _ _ _ _ _ => pe_and (pe_call GW hr1 (by rfl) gW kW bW .nil pass0 (pa_cons (pv 2) pa_nil)) (pe_one (pe_cmpR op_gt (pv 2) pe_int (nomark _))))) pa_nil))))))) (pss_one (ps_ret pe_bl)) pss_nil)
      (pss_one (ps_ret (pe_cmpR (op_eqL hr.units) (pv 1) (pe_call GP hr (by rfl) gP kP bP .nil pass0 (pa_cons (pv 0) (pa_cons (pe_callB (cr_sum rfl) (by rfl) ms (by decide +kernel) (pa_cons (pv 1) pa_nil)) pa_nil))) (nomark _)))), ?_⟩
    refine ⟨_, rfl, .ref a, .ty "list", .type "list", .type "list", true, rfl, .ty _, .base (.lst ha), kit_ty (by decide +kernel), true, rfl, iteF ?_⟩
    refine ⟨_, rfl, a, rfl, ⟨_, SqL.of ha⟩, fun D nD => ?_⟩
    have naD : a ≠ D := ne_of_none ha nD
    refine lc_list (K := K) (a := a) (xs := ns.map V.int) (fun i H' => Same H H' ∧ H' D = some (.lst (((ns.take i).map fun n => decide (0 < n)).map V.bl))) ⟨same_upd nD, upd_same⟩ (fun i H' _ p => SqL.of (p.1 _ _ ha)) ?_ ?_
    · rintro i y H' hi ⟨sm, hD⟩
      obtain ⟨u, hu, rfl⟩ := item_of hi
      have hlt := (List.getElem?_eq_some_iff.mp hu).1
      refine ⟨rfl, _, rfl, u, rfl, _, rfl, iteT ⟨_, rfl, _, _, rfl, rfl, _, hD, ?_, same_new sm nD, ?_⟩⟩
      · rw [List.length_map, List.length_map, List.length_take]
        exact small_line (by omega)
      · rw [upd_same, List.take_add_one, hu, List.map_append, List.map_append]
        rfl
    rintro H1 ⟨s1, hD1⟩
    refine ⟨D, _, rfl, SqL.of hD1, _, rfl, ?_⟩
    rw [List.length_map, List.take_length]
    have e0 : (ns.map fun n => decide (0 < n)).all id = ns.all fun n => decide (0 < n) := by
      rw [List.all_map]
      rfl
    rw [e0]
    by_cases c : (ns.all fun n => decide (0 < n)) = true
    · rw [c]
      have hp : ∀ n ∈ ns, 0 < n := fun n hn => of_decide_eq_true (List.all_eq_true.mp c n hn)
      have ha1 := s1 _ _ ha
      refine iteF ⟨.ref a, rfl, .int f, rfl, .ref a, rfl, a, _, rfl, SqL.of ha1, f, ns.sum, rfl, h1, h30, sum_nonneg hp, hsum hp, fun r H2 _ s2 nr hR => ?_⟩
      refine ⟨a, r, _, _, rfl, rfl, SqL.of (s2 _ _ ha1), SqL.of hR, ?_⟩
      have q2 := q H2 (s1.trans s2)
      unfold isSumB at q2
      rw [c] at q2
      exact q2
    · have q1 := q H1 s1
      unfold isSumB at q1
      rw [Bool.eq_false_iff.mpr c] at q1 ⊢
      exact iteT q1
/-! ### _law_says -/
def spSays : Sp := fun vs H Q _ => ∃ a : Bool, vs = [.bl a, .bl a] ∧ Q (.bl true) H
theorem scSays : FnScope ["_law_said", nDue] ["_law_said", nDue] (defScope sLawSays) := ⟨rfl, rfl, rfl, by decide +kernel, rfl, by decide +kernel, by decide +kernel⟩
theorem ok_says {f : Addr} {fd : FuncData} (F : Fun K "_law_says" "_law_says" sLawSays f fd) (mI : mg "isinstance" = none) (mb : mg "bool" = none) : FnOk P w K mg base CX0 1 f fd ["_law_said", nDue] spSays := by
  refine F.ok scSays (fun vs H Q E h => ?_) (fun cdv A outer s H vs Q E hr h => ?_)
  · obtain ⟨a, rfl, _⟩ := h
    rfl
  · obtain ⟨a, rfl, q⟩ := h
    refine ⟨_, pss_one (ps_ret (pe_and (pe_callB call_isi (by rfl) mI (by decide +kernel) (pa_cons (pv 0) (pa_cons (pe_bltn (v := .ty "bool") (by rfl) mb (by decide +kernel) rfl) pa_nil))) (pe_one (pe_cmpR op_eq (pv 0) (pv 1) (nomark _))))), ?_⟩
    refine ⟨_, rfl, .bl a, .ty "bool", .type "bool", .type "bool", true, rfl, .ty _, .base (.bl a), kit_ty (by decide +kernel), _, rfl, iteT ⟨_, rfl, _, rfl, rfl, ?_⟩⟩
    rw [decide_eq_true rfl]
    exact q
end
end TA
set_option Elab.async false
set_option linter.all false
set_option maxRecDepth 100000
set_option maxHeartbeats 4000000
namespace TA
open PySem PySem.Spec PyProof.Rows L2
theorem shows_due {f h l : Int} {ns : List Int} (h1 : 1 ≤ f) (h0 : 0 ≤ h) : (isSumB f ns && (decide (ns.sum = h) && lostB ns l)) = lostShows f h l ns := by
  unfold isSumB lostShows
  rw [Bool.eq_iff_iff]
  simp only [Bool.and_eq_true, decide_eq_true_eq, List.all_eq_true]
  constructor
  · rintro ⟨⟨_, e⟩, e2, e3⟩
    rw [e2] at e
    exact ⟨e, e3⟩
  · rintro ⟨e, e3⟩
    have es : ns.sum = h := by rw [e]; exact (parts_ok h1 h0).1
    exact ⟨⟨fun n hn => by have := (parts_mem h1 n (e ▸ hn)).1; omega, by rw [es]; exact e⟩, es, e3⟩
theorem min2 {i j : Int} : (if j < i then j else i) = min i j := by
  by_cases c : j < i
  · rw [if_pos c]; omega
  · rw [if_neg c]; omega
theorem take_min {h l t : Int} : takeB h l t = (decide (1 ≤ t) && decide (t ≤ min h l)) := by
  unfold takeB
  rw [Bool.eq_iff_iff]
  simp only [Bool.and_eq_true, decide_eq_true_eq]
  omega
section
variable {P : Program} {w : World} {K : PySem.W.Frag} {mg : Str → Option Value} {base : Heap}
/-! ### _law_due -/
def spDue (K : PySem.W.Frag) (CL CW : Addr) : Sp := fun vs H Q _ => ∃ (f h l : Int) (p : Addr), vs = [.int f, .int h, .int l, .ref p] ∧ 1 ≤ f ∧ f ≤ 30 ∧ 0 ≤ h ∧ h < Bd ∧
  ((∃ (dx a : Addr) (ns : List Int), H p = some (.ins CL dx (lostF a)) ∧ H a = some (.lst (ns.map V.int)) ∧ ns.length ≤ 20000 ∧ ((∀ n ∈ ns, 0 < n) → ns.sum < Bd) ∧ ∀ H', Same H H' → Q (.bl (lostShows f h l ns)) H') ∨
   (∃ (dx : Addr) (t : Int), H p = some (.ins CW dx (wonF t)) ∧ ∀ H', Same H H' → Q (.bl (wonShows f h l t)) H'))
theorem scDue : FnScope ["_law_factor_here", "_law_heap_here", "_law_limit", "_law_found"] ["_law_factor_here", "_law_heap_here", "_law_limit", "_law_found"] (defScope sLawDue) := ⟨rfl, rfl, rfl, by decide +kernel, rfl, by decide +kernel, by decide +kernel⟩
theorem ok_due {f CL CW fIL fIW fS fL : Addr} {fd fdS fdL : FuncData} (F : Fun K "_law_due" "_law_due" sLawDue f fd) (OL : One K mg "Lost" "parts" CL fIL) (OW : One K mg "Won" "taking" CW fIW) (II : IsF K CL CW)
    (G_l_is_sum : FnOk P w K mg base CX0 3 fS fdS ["_law_factor_here", "_law_parts_here"] (spIsSum K)) (k_l_is_sum : PySem.W.keepIn K (.ref fS) = true) (b_l_is_sum : Binds K fdS ["_law_factor_here", "_law_parts_here"] []) (g_l_is_sum : mg "_law_is_sum" = some (.ref fS))
    (G_l_lost : FnOk P w K mg base CX0 3 fL fdL ["_law_factor_here", "_law_heap_here", "_law_limit"] spLLost) (k_l_lost : PySem.W.keepIn K (.ref fL) = true) (b_l_lost : Binds K fdL ["_law_factor_here", "_law_heap_here", "_law_limit"] []) (g_l_lost : mg "_law_lost" = some (.ref fL))
    (m_isinstance : mg "isinstance" = none) (m_sum : mg "sum" = none) (m_min : mg "min" = none) :
    FnOk P w K mg base CX0 4 f fd ["_law_factor_here", "_law_heap_here", "_law_limit", "_law_found"] (spDue K CL CW) := by
  refine F.ok scDue (fun vs H Q E h => ?_) (fun cdv A outer s H vs Q E hr h => ?_)
  · obtain ⟨f, h, l, p, rfl, _⟩ := h
    rfl
  · obtain ⟨f, h, l, p, rfl, h1, h30, h0, hB, hh⟩ := h
    have r_l_is_sum : Room 3 _ := hr
    have r_l_lost : Room 3 _ := hr
    rcases hh with ⟨dx, a, ns, hp, ha, hlen, hsum, q⟩ | ⟨dx, t, hp, q⟩
    · refine ⟨_, (pss_cons (ps_if (pt_val (pe_callB call_isi (by rfl) m_isinstance (by decide +kernel) (pa_cons (pv 3) (pa_cons (pe_glob (v := .ref CL) (by rfl) OL.mgC rfl) pa_nil)))) (pss_cons (ps_if (PW.pt (pw_or (pt_not (pt_val (pe_call G_l_is_sum r_l_is_sum (by rfl) g_l_is_sum k_l_is_sum b_l_is_sum .nil pass0 (pa_cons (pv 0) (pa_cons (pe_fld (pv 3) rfl) pa_nil))))) (pw_or1 (pt_cmpR op_ne (pe_callB (cr_sum rfl) (by rfl) m_sum (by decide +kernel) (pa_cons (pe_fld (pv 3) rfl) pa_nil)) (pv 1) (nomark _))))) (pss_one (ps_ret pe_bl)) pss_nil)
          (pss_one (ps_ret (pe_or (pe_cmpR (op_eqL hr.units) (pe_fld (pv 3) rfl) (pe_lst pa_nil) (nomark _)) (pe_one (pe_cmpR op_gt (pe_ix ix_list (pe_fld (pv 3) rfl) (pe_un un_neg pe_int) (fun _ _ => rfl)) (pv 2) (nomark _))))))) pss_nil) pss_never), ?_⟩
      refine ⟨_, rfl, .ref p, .ref CL, .ref CL, .ref CL, true, rfl, .own CL, II.tyL OL hp, II.kLL, _, rfl, iteT ?_⟩
      refine ⟨_, rfl, _, rfl, p, CL, dx, _, _, rfl, hp, OL.cl, OL.nF, rfl, f, a, ns, rfl, h1, h30, ha, hlen, hsum, fun H5 s5 => ⟨_, rfl, ?_⟩⟩
      have ha5 := s5 _ _ ha
      have hp5 := s5 _ _ hp
      have hd := shows_due (l := l) (ns := ns) h1 h0
      by_cases c1 : isSumB f ns = true
      · rw [c1] at hd ⊢
        refine iteF ⟨_, rfl, p, CL, dx, _, _, rfl, hp5, OL.cl, OL.nF, rfl, a, _, rfl, SqL.of ha5, .int h, rfl, rfl, _, rfl, ?_⟩
        have ev : decide (V.int ns.sum = V.int h) = decide (ns.sum = h) := by
          by_cases e : ns.sum = h
          · rw [e, decide_eq_true rfl, decide_eq_true rfl]
          · rw [decide_eq_false e, decide_eq_false (fun z => e (V.int.inj z))]
        rw [ev]
        by_cases c2 : ns.sum = h
        · rw [decide_eq_true c2] at hd ⊢
          refine iteF ⟨_, rfl, p, CL, dx, _, _, rfl, hp5, OL.cl, OL.nF, rfl, Nat.zero_le _, fun v nv => ?_⟩
          have s6 : Same H (upd H5 v (.lst [])) := s5.trans (same_upd nv)
          have ha6 := s6 _ _ ha
          have hp6 := s6 _ _ hp
          have q6 := q _ s6
          refine ⟨a, v, ns, [], rfl, rfl, SqL.of ha6, SqL.of upd_same, _, rfl, ?_⟩
          rw [← hd] at q6
          rcases cases_last ns with e | ⟨m, z, e⟩
          · rw [e] at q6 ⊢
            exact iteT q6
          · rw [decide_eq_false (by rw [e]; simp)]
            rw [e] at ha6 q6
            rw [lostB_snoc] at q6
            exact iteF ⟨_, rfl, p, CL, dx, _, _, rfl, hp6, OL.cl, OL.nF, rfl, 1, rfl, a, _, _, _, rfl, rfl, SqL.of ha6, vlast rfl, .int l, rfl, z, l, rfl, rfl, q6⟩
        · rw [decide_eq_false c2] at hd ⊢
          have q5 := q _ s5
          rw [← hd] at q5
          exact iteT q5
      · rw [Bool.eq_false_iff.mpr c1] at hd ⊢
        have q5 := q _ s5
        rw [← hd] at q5
        exact iteT q5
    · refine ⟨_, (pss_cons (ps_if (pt_val (pe_callB call_isi (by rfl) m_isinstance (by decide +kernel) (pa_cons (pv 3) (pa_cons (pe_glob (v := .ref CL) (by rfl) OL.mgC rfl) pa_nil)))) pss_never pss_nil)
      (pss_cons (ps_if (pt_not (pt_chain op_le op_le pe_int (pe_fld (pv 3) rfl) (pe_callB (call_min2 rfl) (by rfl) m_min (by decide +kernel) (pa_cons (pv 1) (pa_cons (pv 2) pa_nil))))) (pss_one (ps_ret pe_bl)) pss_nil)
      (pss_one (ps_ret (pe_call G_l_lost r_l_lost (by rfl) g_l_lost k_l_lost b_l_lost .nil pass0 (pa_cons (pv 0) (pa_cons (pe_op op_sub (pv 1) (pe_fld (pv 3) rfl)) (pa_cons (pe_op op_mul (pv 0) (pe_fld (pv 3) rfl)) pa_nil)))))))), ?_⟩
      refine ⟨_, rfl, .ref p, .ref CL, .ref CW, .ref CL, false, rfl, .own CL, II.tyW OW hp, II.kWL, _, rfl, iteF ?_⟩
      have ew : wonShows f h l t = (takeB h l t && lostB (parts f (h - t)) (f * t)) := rfl
      rw [take_min] at ew
      refine ⟨_, rfl, p, CW, dx, _, _, rfl, hp, OW.cl, OW.nF, rfl, 1, t, rfl, rfl, _, rfl, ?_⟩
      by_cases c1 : 1 ≤ t
      · rw [decide_eq_true c1] at ew ⊢
        refine iteT ⟨.int h, rfl, .int l, rfl, h, l, rfl, t, _, rfl, rfl, _, rfl, ?_⟩
        rw [min2]
        by_cases c2 : t ≤ min h l
        · rw [decide_eq_true c2] at ew ⊢
          refine iteF ⟨.int f, rfl, .int h, rfl, _, rfl, p, CW, dx, _, _, rfl, hp, OW.cl, OW.nF, rfl, h, t, rfl, rfl, .int f, rfl, _, rfl, p, CW, dx, _, _, rfl, hp, OW.cl, OW.nF, rfl, f, t, rfl, rfl, .inl (f_small h1 h30), f, h - t, f * t, rfl, h1, h30, by omega, by omega, fun H3 s3 => ?_⟩
          have q3 := q H3 s3
          rw [ew] at q3
          exact q3
        · rw [decide_eq_false c2] at ew ⊢
          have q3 := q H (Same.refl H)
          rw [ew] at q3
          exact iteT q3
      · rw [decide_eq_false c1] at ew ⊢
        have q3 := q H (Same.refl H)
        rw [ew] at q3
        exact iteF ⟨_, rfl, iteT q3⟩
end
end TA
set_option Elab.async false
set_option linter.all false
set_option maxRecDepth 100000
set_option maxHeartbeats 4000000
namespace TA
open PySem PySem.Spec PyProof.Rows L2
/-! ### == of tuples of ints -/
theorem shaped_tints (as : List Int) : SeqAt.shaped (.tuple (as.map .int)) = true := by
  obtain ⟨h1, h2⟩ := lay_ints as
  unfold SeqAt.shaped
  have e1 : PyData.canLay0 (.tuple (as.map .int)) = true := by simp only [PyData.canLay0]; exact h1
  have e2 : PyData.depth (.tuple (as.map .int)) ≤ 64 := by simp only [PyData.depth]; rw [h2]; decide
  rw [e1, decide_eq_true e2]; rfl
theorem dp_tints {K : PySem.W.Frag} {H : Hp} {a : Addr} {ns : List Int} (h : SqT K H a (ns.map V.int)) : Dp K H (.ref a) (.tuple (ns.map PyData.int)) := .tup h (dp_all ns)
def rEqTu (K : PySem.W.Frag) : R2 := fun x y H Q => ∃ (a b : Addr) (xs ys : List Int), x = .ref a ∧ y = .ref b ∧ SqT K H a (xs.map V.int) ∧ SqT K H b (ys.map V.int) ∧ Q (.bl (decide (xs = ys))) H
def rNeTu (K : PySem.W.Frag) : R2 := fun x y H Q => ∃ (a b : Addr) (xs ys : List Int), x = .ref a ∧ y = .ref b ∧ SqT K H a (xs.map V.int) ∧ SqT K H b (ys.map V.int) ∧ Q (.bl (!decide (xs = ys))) H
section
variable {X : Cx}
theorem op_eqTu (hu : X.A.units + 64 < cLine) : OpR X (compareOp .Eq) (rEqTu X.K) := by
  intro pins s σ H x y v u Q I rx ry h
  obtain ⟨a, b, xs, ys, rfl, rfl, h1, h2, q⟩ := h
  refine op_eqD hu pins s σ H _ _ v u Q I rx ry ⟨_, _, dp_tints h1, dp_tints h2, shaped_tints _, shaped_tints _, ?_⟩
  rw [PyData.eqv, eqv_ints]
  exact q
theorem op_neTu (hu : X.A.units + 64 < cLine) : OpR X (compareOp .NotEq) (rNeTu X.K) := by
  intro pins s σ H x y v u Q I rx ry h
  obtain ⟨a, b, xs, ys, rfl, rfl, h1, h2, q⟩ := h
  refine op_neD hu pins s σ H _ _ v u Q I rx ry ⟨_, _, dp_tints h1, dp_tints h2, shaped_tints _, shaped_tints _, ?_⟩
  rw [PyData.eqv, eqv_ints]
  exact q
end
end TA
set_option Elab.async false
set_option linter.all false
set_option maxRecDepth 100000
set_option maxHeartbeats 4000000
namespace TA
open PySem PySem.Spec PyProof.Rows L2
/-- a triple that the answer is asked of too -/
def Oth (H : Hp) (t : Addr) : Prop := ∃ n fa le : Int, H t = some (.tup [.int n, .int fa, .int le]) ∧ 1 ≤ n ∧ n ≤ 30 ∧ 0 ≤ fa ∧ fa < Bd
theorem Oth.sm {H H' : Hp} {t : Addr} (s : Sm H H') (o : Oth H t) : Oth H' t := by
  obtain ⟨n, fa, le, h, r⟩ := o
  exact ⟨n, fa, le, s.tup h, r⟩
theorem ref_of {ts : List Addr} {i : Nat} {y : V} (h : (ts.map V.ref)[i]? = some y) : ∃ t, t ∈ ts ∧ y = V.ref t := by
  rw [List.getElem?_map] at h
  cases e : ts[i]? with
  | none =>
    rw [e] at h
    cases h
  | some u =>
    rw [e] at h
    exact ⟨u, List.mem_of_getElem? e, (Option.some.inj h).symm⟩
theorem tf : decide (V.bl true = V.bl false) = false := decide_eq_false fun z => by cases z
theorem ft : decide (V.bl false = V.bl true) = false := decide_eq_false fun z => by cases z
section
variable {P : Program} {w : World} {K : PySem.W.Frag} {mg : Str → Option Value} {base : Heap}
/-- a def of the text that keeps its promise, as its callers want it -/
def Df (P : Program) (w : World) (K : PySem.W.Frag) (mg : Str → Option Value) (base : Heap) (x : Str) (k : Nat) (ps : List Str) (sp : Sp) : Prop :=
  ∃ (f : Addr) (fd : FuncData), FnOk P w K mg base CX0 k f fd ps sp ∧ PySem.W.keepIn K (.ref f) = true ∧ Binds K fd ps [] ∧ mg x = some (.ref f)
/-! ### _law_right -/
def spRight (T : Addr) : Sp := fun vs H Q _ => ∃ (f h l : Int) (o : Addr) (ts : List Addr), vs = [.int f, .int h, .int l, .ref o] ∧ 1 ≤ f ∧ f ≤ 30 ∧ 0 ≤ h ∧ h < Bd ∧ 0 ≤ l ∧ H o = some (.lst (ts.map V.ref)) ∧ (∀ t ∈ ts, Oth H t) ∧ GxR.TabG H T ∧
  ∀ H', Sm H H' → Q (.bl true) H'
abbrev nRight : List Str := ["_law_factor_here", "_law_heap_here", "_law_limit", "_law_others", "_law_lost_here", "_law_again", "_law_found", "_law_near", "_law_far", "_law_less", "_law_after"]
theorem scRight : FnScope nRight ["_law_factor_here", "_law_heap_here", "_law_limit", "_law_others"] (defScope sRight) := ⟨rfl, rfl, rfl, by decide +kernel, rfl, by decide +kernel, by decide +kernel⟩
theorem ok_right {f T CL CW CA fIL fIW fHL fHW : Addr} {fd fdHL fdHW : FuncData} (F : Fun K "_law_right" "_law_right" sRight f fd)
    (OL : One K mg "Lost" "parts" CL fIL) (OW : One K mg "Won" "taking" CW fIW) (II : IsF K CL CW) (gA : mg "Answer" = some (.ref CA)) (kLA : PySem.W.kitOne K (.ref CL) (.ref CA) = some true) (kWA : PySem.W.kitOne K (.ref CW) (.ref CA) = some true)
    (MHL : Meth K CL "shows" fHL) (GHL : FnOk P w K mg base CX0 4 fHL fdHL ["self", "factor", "heap", "limit"] (spLostShows K CL T)) (bHL : Binds K fdHL ["self", "factor", "heap", "limit"] [])
    (MHW : Meth K CW "shows" fHW) (GHW : FnOk P w K mg base CX0 4 fHW fdHW ["self", "factor", "heap", "limit"] (spWonShows CW)) (bHW : Binds K fdHW ["self", "factor", "heap", "limit"] [])
    (D_l_lost : Df P w K mg base "_law_lost" 3 ["_law_factor_here", "_law_heap_here", "_law_limit"] spLLost)
    (D_told : Df P w K mg base "told" 4 ["factor", "heap", "limit"] (spTold CL CW))
    (D_l_due : Df P w K mg base "_law_due" 4 ["_law_factor_here", "_law_heap_here", "_law_limit", "_law_found"] (spDue K CL CW))
    (D_l_says : Df P w K mg base "_law_says" 1 ["_law_said", nDue] spSays)
    (D_l_whole : Df P w K mg base "_law_whole" 1 ["_law_number"] spLWhole)
    (D_behind : Df P w K mg base "behind" 4 ["factor", "heap", "limit", "taking"] spBehind)
    (m_range : mg "range" = none) (m_isinstance : mg "isinstance" = none) (m_list : mg "list" = none) (m_tuple : mg "tuple" = none) :
    FnOk P w K mg base CX0 5 f fd ["_law_factor_here", "_law_heap_here", "_law_limit", "_law_others"] (spRight T) := by
  refine F.ok scRight (fun vs H Q E h => ?_) (fun cdv A outer s H vs Q E hr h => ?_)
  · obtain ⟨f, h, l, o, ts, rfl, _⟩ := h
    rfl
  · obtain ⟨f, h, l, o, ts, rfl, h1, h30, h0, hB, l0, hO, hts, hT, q⟩ := h
    obtain ⟨f_l_lost, fd_l_lost, G_l_lost, k_l_lost, b_l_lost, g_l_lost⟩ := D_l_lost
    obtain ⟨f_told, fd_told, G_told, k_told, b_told, g_told⟩ := D_told
    obtain ⟨f_l_due, fd_l_due, G_l_due, k_l_due, b_l_due, g_l_due⟩ := D_l_due
    obtain ⟨f_l_says, fd_l_says, G_l_says, k_l_says, b_l_says, g_l_says⟩ := D_l_says
    obtain ⟨f_l_whole, fd_l_whole, G_l_whole, k_l_whole, b_l_whole, g_l_whole⟩ := D_l_whole
    obtain ⟨f_behind, fd_behind, G_behind, k_behind, b_behind, g_behind⟩ := D_behind
    have r_l_lost : Room 3 _ := hr.mono (by decide)
    have r_told : Room 4 _ := hr.mono (by decide)
    have r_l_due : Room 4 _ := hr.mono (by decide)
    have r_l_says : Room 1 _ := hr.mono (by decide)
    have r_l_whole : Room 1 _ := hr.mono (by decide)
    have r_behind : Room 4 _ := hr.mono (by decide)
    have r_shows : Room 4 _ := hr
    by_cases c : lostB (parts f h) l = true
    · refine ⟨_, (pss_cons (ps_set (i := 4) scRight.nd rfl (Or.inl rfl) (pe_call G_l_lost r_l_lost (by rfl) g_l_lost k_l_lost b_l_lost .nil pass0 (pa_cons (pv 0) (pa_cons (pv 1) (pa_cons (pv 2) pa_nil)))))
      (pss_cons (ps_for PassesOwn.never rfl (pi_range1 (by rfl) m_range (pa_cons pe_int pa_nil)) (pg_name (i := 5) scRight.nd rfl (Or.inl rfl))
        (pss_cons (ps_set (i := 6) scRight.nd rfl (Or.inl rfl) (pe_call G_told r_told (by rfl) g_told k_told b_told .nil pass0 (pa_cons (pv 0) (pa_cons (pv 1) (pa_cons (pv 2) pa_nil)))))
        (pss_cons (ps_if (PW.pt (pw_or (pt_not (pt_val (pe_callB call_isi (by rfl) m_isinstance (by decide +kernel) (pa_cons (pv 6) (pa_cons (pe_glob (v := .ref CA) (by rfl) gA rfl) pa_nil))))) (pw_or1 (pt_cmpR op_eq (pe_callB call_isi (by rfl) m_isinstance (by decide +kernel) (pa_cons (pv 6) (pa_cons (pe_glob (v := .ref CL) (by rfl) OL.mgC rfl) pa_nil))) (pe_callB call_isi (by rfl) m_isinstance (by decide +kernel) (pa_cons (pv 6) (pa_cons (pe_glob (v := .ref CW) (by rfl) OW.mgC rfl) pa_nil))) (nomark _))))) pss_never pss_nil)
        (pss_cons (ps_if (PW.pt (pw_or (pt_cmpR op_ne (pe_callB call_isi (by rfl) m_isinstance (by decide +kernel) (pa_cons (pv 6) (pa_cons (pe_glob (v := .ref CL) (by rfl) OL.mgC rfl) pa_nil))) (pv 4) (nomark _)) (pw_or1 (pt_not (pt_val (pe_call G_l_due r_l_due (by rfl) g_l_due k_l_due b_l_due .nil pass0 (pa_cons (pv 0) (pa_cons (pv 1) (pa_cons (pv 2) (pa_cons (pv 6) pa_nil)))))))))) pss_never pss_nil)
        (pss_cons (ps_if (pt_cmpR op_notBl (pe_meth (pv 6) OL.cl MHL GHL r_shows bHL .nil pass0 (pa_cons (pv 0) (pa_cons (pv 1) (pa_cons (pv 2) pa_nil)))) pe_bl (nomark _)) pss_never pss_nil)
        (pss_cons (ps_for PassesOwn.never rfl (pi_list (pv 3)) (pg_tup (by rfl) (pgs_cons (pg_name (i := 7) scRight.nd rfl (Or.inl rfl)) (pgs_cons (pg_name (i := 8) scRight.nd rfl (Or.inl rfl)) (pgs_cons (pg_name (i := 9) scRight.nd rfl (Or.inl rfl)) pgs_nil))))
          (pss_one (ps_if (pt_not (pt_val (pe_call G_l_says r_l_says (by rfl) g_l_says k_l_says b_l_says .nil pass0 (pa_cons (pe_meth (pv 6) OL.cl MHL GHL r_shows bHL .nil pass0 (pa_cons (pv 7) (pa_cons (pv 8) (pa_cons (pv 9) pa_nil)))) (pa_cons (pe_call G_l_due r_l_due (by rfl) g_l_due k_l_due b_l_due .nil pass0 (pa_cons (pv 7) (pa_cons (pv 8) (pa_cons (pv 9) (pa_cons (pv 6) pa_nil))))) pa_nil))))) pss_never pss_nil)))
        (pss_cons (ps_if (pt_not (pt_val (pv 4))) pss_never pss_nil)
        (pss_cons (ps_if (pt_not (pt_val (pe_callB call_isi (by rfl) m_isinstance (by decide +kernel) (pa_cons (pe_fld (pv 6) rfl) (pa_cons (pe_bltn (v := .ty "list") (by rfl) m_list (by decide +kernel) rfl) pa_nil))))) pss_never pss_nil)
        (pss_cons (ps_expr (pe_bm PySem.F.plainAttrs_list PySem.F.slot_list_append PySem.F.type_list_append mt_append (pe_fld (pv 6) rfl) (pa_cons pe_int pa_nil)))
        (pss_one (ps_if (pt_cmpR op_notBl (pe_meth (pv 6) OL.cl MHL GHL r_shows bHL .nil pass0 (pa_cons (pv 0) (pa_cons (pv 1) (pa_cons (pv 2) pa_nil)))) pe_bl (nomark _)) pss_never pss_nil)))))))))))
      (pss_one (ps_ret pe_bl)))), ?_⟩
      refine ⟨_, rfl, _, rfl, _, rfl, f, h, l, rfl, h1, h30, h0, hB, fun H1 s1 => ?_⟩
      rw [c]
      refine ⟨2, rfl, by decide, by decide, for_range (n := 2) (fun i σ H' => ∃ v5 v6 v7 v8 v9 v10, σ = [some (.int f), some (.int h), some (.int l), some (.ref o), some (.bl true), v5, v6, v7, v8, v9, v10] ∧ Sm H H') ⟨none, none, none, none, none, none, rfl, Sm.of s1⟩ ?_ ?_⟩
      · rintro i σ H2 hi ⟨v5, v6, v7, v8, v9, v10, rfl, s2⟩
        refine ⟨_, rfl, _, rfl, _, rfl, f, h, l, rfl, h1, h30, h0, hB, l0, fun _ hlen p dx a H3 s3 np na npa hp ha => ?_, fun m t e tl => ?_⟩
        · have z3 := s2.trans (Sm.of s3)
          have na0 : H a = none := s2.free na
          have hsum : (∀ n ∈ parts f h, 0 < n) → (parts f h).sum < Bd := fun _ => by rw [(parts_ok h1 h0).1]; exact hB
          have tyL : ∀ {H' : Hp}, H' p = some (.ins CL dx (lostF a)) → TyX K H' (.ref p) (.ref CL) := fun e => II.tyL OL e
          -- isinstance
          refine ⟨_, rfl, .ref p, .ref CA, .ref CL, .ref CA, true, rfl, .own CA, tyL hp, kLA, _, rfl, iteF ?_⟩
          refine ⟨_, rfl, .ref p, .ref CL, .ref CL, .ref CL, true, rfl, .own CL, tyL hp, II.kLL, _, rfl, .ref p, .ref CW, .ref CL, .ref CW, false, rfl, .own CW, tyL hp, II.kLW, rfl, _, rfl, ?_⟩
          rw [tf]
          refine iteF ?_
          -- isinstance(found, Lost) != lost_here or not due
          refine ⟨_, rfl, .ref p, .ref CL, .ref CL, .ref CL, true, rfl, .own CL, tyL hp, II.kLL, _, rfl, rfl, _, rfl, iteNS rfl ?_⟩
          refine ⟨_, rfl, _, rfl, _, rfl, _, rfl, f, h, l, p, rfl, h1, h30, h0, hB, .inl ⟨dx, a, _, hp, ha, by omega, hsum, fun H4 s4 => ⟨_, rfl, ?_⟩⟩⟩
          rw [lost_shows c]
          refine iteF ?_
          have z4 := z3.trans (Sm.of s4)
          have hp4 := s4 _ _ hp
          have ha4 := s4 _ _ ha
          -- shows is not True
          refine ⟨_, rfl, p, dx, _, rfl, hp4, rfl, _, rfl, _, rfl, _, rfl, p, dx, a, parts f h, f, h, l, rfl, hp4, ha4, h1, h30, h0, hB, z4.tab hT, fun H5 s5 => ?_⟩
          rw [lost_shows c]
          refine ⟨true, true, rfl, rfl, _, rfl, iteNS rfl ?_⟩
          have z5 := z4.trans s5
          have hp5 := s5.1 _ _ rfl hp4
          have ha5 := s5.lst ha4
          -- the others
          refine ⟨_, rfl, o, rfl, ⟨_, SqL.of (z5.lst hO)⟩, for_list (K := K) (a := o) (xs := ts.map V.ref) (fun j σ H' => ∃ v7 v8 v9, σ = [some (.int f), some (.int h), some (.int l), some (.ref o), some (.bl true), some (.int (0 + (i : Int))), some (.ref p), v7, v8, v9, v10] ∧ Sm H5 H') ⟨v7, v8, v9, rfl, Sm.refl _⟩ (fun j σ H' _ ⟨_, _, _, _, s⟩ => SqL.of (s.lst (z5.lst hO))) ?_ ?_⟩
          · rintro j y σ H6 hj ⟨v7, v8, v9, rfl, s6⟩
            obtain ⟨t, htm, rfl⟩ := ref_of hj
            obtain ⟨n, fa, le, ht, n1, n30, fa0, faB⟩ := ((hts t htm).sm z5).sm s6
            have hp6 := s6.1 _ _ rfl hp5
            have ha6 := s6.lst ha5
            refine ⟨t, _, rfl, SqT.of ht, rfl, _, _, rfl, _, _, rfl, _, _, rfl, rfl, ?_⟩
            refine ⟨_, rfl, p, dx, _, rfl, hp6, rfl, _, rfl, _, rfl, _, rfl, p, dx, a, parts f h, n, fa, le, rfl, hp6, ha6, n1, n30, fa0, faB, (z5.trans s6).tab hT, fun H7 s7 => ?_⟩
            refine ⟨_, rfl, _, rfl, _, rfl, _, rfl, n, fa, le, p, rfl, n1, n30, fa0, faB, .inl ⟨dx, a, parts f h, s7.1 _ _ rfl hp6, s7.lst ha6, by omega, hsum, fun H8 s8 => ?_⟩⟩
            exact ⟨lostShows n fa le (parts f h), rfl, _, rfl, iteF ⟨_, _, _, rfl, s6.trans (s7.trans (Sm.of s8))⟩⟩
          rintro σ H6 ⟨v7, v8, v9, rfl, s6⟩
          have hp6 := s6.1 _ _ rfl hp5
          have ha6 := s6.lst ha5
          -- not lost_here; isinstance(found.parts, list)
          refine ⟨_, rfl, _, rfl, iteF ?_⟩
          refine ⟨_, rfl, p, CL, dx, _, _, rfl, hp6, OL.cl, OL.nF, rfl, .ref a, .ty "list", .type "list", .type "list", true, rfl, .ty _, .base (.lst ha6), kit_ty (by decide +kernel), _, rfl, iteF ?_⟩
          refine ⟨_, rfl, p, CL, dx, _, _, rfl, hp6, OL.cl, OL.nF, rfl, .inl ⟨rfl, _, SqL.of ha6⟩, a, _, _, rfl, rfl, ha6, ?_, ?_⟩
          · rw [List.length_map]
            exact small_line (by omega)
          have z7 : Sm H (upd H6 a (.lst ((parts f h).map V.int ++ [.int 0]))) := Sm.new (z5.trans s6) na0
          have ha7 : (upd H6 a (.lst ((parts f h).map V.int ++ [.int 0]))) a = some (.lst ((parts f h ++ [0]).map V.int)) := by rw [upd_same, List.map_append]; rfl
          have hp7 : (upd H6 a (.lst ((parts f h).map V.int ++ [.int 0]))) p = some (.ins CL dx (lostF a)) := by rw [upd_ne npa]; exact hp6
          generalize upd H6 a (.lst ((parts f h).map V.int ++ [.int 0])) = H7 at z7 ha7 hp7
          refine ⟨_, rfl, p, dx, _, rfl, hp7, rfl, _, rfl, _, rfl, _, rfl, p, dx, a, parts f h ++ [0], f, h, l, rfl, hp7, ha7, h1, h30, h0, hB, z7.tab hT, fun H8 s8 => ?_⟩
          have e0 : lostShows f h l (parts f h ++ [0]) = false := by
            unfold lostShows
            rw [decide_eq_false fun e => by
              have := (parts_mem h1 0 (by rw [← e]; simp)).1
              omega]
            rfl
          rw [e0]
          exact ⟨false, false, rfl, rfl, _, rfl, iteNS rfl ⟨_, _, _, _, _, _, rfl, z7.trans s8⟩⟩
        · rw [e, lostB_snoc] at c
          have := of_decide_eq_true c
          omega
      · rintro σ H2 ⟨v5, v6, v7, v8, v9, v10, rfl, s2⟩
        exact q H2 s2
    · refine ⟨_, (pss_cons (ps_set (i := 4) scRight.nd rfl (Or.inl rfl) (pe_call G_l_lost r_l_lost (by rfl) g_l_lost k_l_lost b_l_lost .nil pass0 (pa_cons (pv 0) (pa_cons (pv 1) (pa_cons (pv 2) pa_nil)))))
      (pss_cons (ps_for PassesOwn.never rfl (pi_range1 (by rfl) m_range (pa_cons pe_int pa_nil)) (pg_name (i := 5) scRight.nd rfl (Or.inl rfl))
        (pss_cons (ps_set (i := 6) scRight.nd rfl (Or.inl rfl) (pe_call G_told r_told (by rfl) g_told k_told b_told .nil pass0 (pa_cons (pv 0) (pa_cons (pv 1) (pa_cons (pv 2) pa_nil)))))
        (pss_cons (ps_if (PW.pt (pw_or (pt_not (pt_val (pe_callB call_isi (by rfl) m_isinstance (by decide +kernel) (pa_cons (pv 6) (pa_cons (pe_glob (v := .ref CA) (by rfl) gA rfl) pa_nil))))) (pw_or1 (pt_cmpR op_eq (pe_callB call_isi (by rfl) m_isinstance (by decide +kernel) (pa_cons (pv 6) (pa_cons (pe_glob (v := .ref CL) (by rfl) OL.mgC rfl) pa_nil))) (pe_callB call_isi (by rfl) m_isinstance (by decide +kernel) (pa_cons (pv 6) (pa_cons (pe_glob (v := .ref CW) (by rfl) OW.mgC rfl) pa_nil))) (nomark _))))) pss_never pss_nil)
        (pss_cons (ps_if (PW.pt (pw_or (pt_cmpR op_ne (pe_callB call_isi (by rfl) m_isinstance (by decide +kernel) (pa_cons (pv 6) (pa_cons (pe_glob (v := .ref CL) (by rfl) OL.mgC rfl) pa_nil))) (pv 4) (nomark _)) (pw_or1 (pt_not (pt_val (pe_call G_l_due r_l_due (by rfl) g_l_due k_l_due b_l_due .nil pass0 (pa_cons (pv 0) (pa_cons (pv 1) (pa_cons (pv 2) (pa_cons (pv 6) pa_nil)))))))))) pss_never pss_nil)
        (pss_cons (ps_if (pt_cmpR op_notBl (pe_meth (pv 6) OW.cl MHW GHW r_shows bHW .nil pass0 (pa_cons (pv 0) (pa_cons (pv 1) (pa_cons (pv 2) pa_nil)))) pe_bl (nomark _)) pss_never pss_nil)
        (pss_cons (ps_for PassesOwn.never rfl (pi_list (pv 3)) (pg_tup (by rfl) (pgs_cons (pg_name (i := 7) scRight.nd rfl (Or.inl rfl)) (pgs_cons (pg_name (i := 8) scRight.nd rfl (Or.inl rfl)) (pgs_cons (pg_name (i := 9) scRight.nd rfl (Or.inl rfl)) pgs_nil))))
          (pss_one (ps_if (pt_not (pt_val (pe_call G_l_says r_l_says (by rfl) g_l_says k_l_says b_l_says .nil pass0 (pa_cons (pe_meth (pv 6) OW.cl MHW GHW r_shows bHW .nil pass0 (pa_cons (pv 7) (pa_cons (pv 8) (pa_cons (pv 9) pa_nil)))) (pa_cons (pe_call G_l_due r_l_due (by rfl) g_l_due k_l_due b_l_due .nil pass0 (pa_cons (pv 7) (pa_cons (pv 8) (pa_cons (pv 9) (pa_cons (pv 6) pa_nil))))) pa_nil))))) pss_never pss_nil)))
        (pss_cons (ps_if (pt_not (pt_val (pv 4))) (pss_cons (ps_if (pt_not (pt_val (pe_call G_l_whole r_l_whole (by rfl) g_l_whole k_l_whole b_l_whole .nil pass0 (pa_cons (pe_fld (pv 6) rfl) pa_nil)))) pss_never pss_nil)
            (pss_cons (ps_set (i := 10) scRight.nd rfl (Or.inl rfl) (pe_call G_behind r_behind (by rfl) g_behind k_behind b_behind .nil pass0 (pa_cons (pv 0) (pa_cons (pv 1) (pa_cons (pv 2) (pa_cons (pe_fld (pv 6) rfl) pa_nil))))))
            (pss_one (ps_ret (pe_and (pe_cmpR (op_eqTu hr.units) (pv 10) (pe_tup (pa_cons (pe_op op_sub (pv 1) (pe_fld (pv 6) rfl)) (pa_cons (pe_op op_mul (pv 0) (pe_fld (pv 6) rfl)) pa_nil))) (nomark _)) (pe_one (pe_callB call_isi (by rfl) m_isinstance (by decide +kernel) (pa_cons (pv 10) (pa_cons (pe_bltn (v := .ty "tuple") (by rfl) m_tuple (by decide +kernel) rfl) pa_nil))))))))) pss_nil) pss_never)))))))
      (pss_one (ps_ret pe_bl)))), ?_⟩
      have cf : lostB (parts f h) l = false := Bool.eq_false_iff.mpr c
      refine ⟨_, rfl, _, rfl, _, rfl, f, h, l, rfl, h1, h30, h0, hB, fun H1 s1 => ?_⟩
      rw [cf]
      refine ⟨2, rfl, by decide, by decide, for_range (n := 2) (fun i σ H' => ∃ v5 v6 v7 v8 v9 v10, σ = [some (.int f), some (.int h), some (.int l), some (.ref o), some (.bl false), v5, v6, v7, v8, v9, v10] ∧ Sm H H') ⟨none, none, none, none, none, none, rfl, Sm.of s1⟩ ?_ ?_⟩
      · rintro i σ H2 hi ⟨v5, v6, v7, v8, v9, v10, rfl, s2⟩
        refine ⟨_, rfl, _, rfl, _, rfl, f, h, l, rfl, h1, h30, h0, hB, l0, fun e => absurd e c, fun m t e tl p dx H3 s3 np hp => ?_⟩
        have ok := won_ok h1 h0 e tl
        have z3 := s2.trans (Sm.of s3)
        have tyW : ∀ {H' : Hp}, H' p = some (.ins CW dx (wonF t)) → TyX K H' (.ref p) (.ref CW) := fun e => II.tyW OW e
        refine ⟨_, rfl, .ref p, .ref CA, .ref CW, .ref CA, true, rfl, .own CA, tyW hp, kWA, _, rfl, iteF ?_⟩
        refine ⟨_, rfl, .ref p, .ref CL, .ref CW, .ref CL, false, rfl, .own CL, tyW hp, II.kWL, _, rfl, .ref p, .ref CW, .ref CW, .ref CW, true, rfl, .own CW, tyW hp, II.kWW, rfl, _, rfl, ?_⟩
        rw [ft]
        refine iteF ?_
        refine ⟨_, rfl, .ref p, .ref CL, .ref CW, .ref CL, false, rfl, .own CL, tyW hp, II.kWL, _, rfl, rfl, _, rfl, iteNS rfl ?_⟩
        refine ⟨_, rfl, _, rfl, _, rfl, _, rfl, f, h, l, p, rfl, h1, h30, h0, hB, .inr ⟨dx, t, hp, fun H4 s4 => ⟨_, rfl, ?_⟩⟩⟩
        rw [ok]
        refine iteF ?_
        have z4 := z3.trans (Sm.of s4)
        have hp4 := s4 _ _ hp
        refine ⟨_, rfl, p, dx, _, rfl, hp4, rfl, _, rfl, _, rfl, _, rfl, p, dx, t, f, h, l, rfl, hp4, h1, h30, h0, hB, fun H5 s5 => ?_⟩
        rw [ok]
        refine ⟨true, true, rfl, rfl, _, rfl, iteNS rfl ?_⟩
        have z5 := z4.trans (Sm.of s5)
        have hp5 := s5 _ _ hp4
        refine ⟨_, rfl, o, rfl, ⟨_, SqL.of (z5.lst hO)⟩, for_list (K := K) (a := o) (xs := ts.map V.ref) (fun j σ H' => ∃ v7 v8 v9, σ = [some (.int f), some (.int h), some (.int l), some (.ref o), some (.bl false), some (.int (0 + (i : Int))), some (.ref p), v7, v8, v9, v10] ∧ Sm H5 H') ⟨v7, v8, v9, rfl, Sm.refl _⟩ (fun j σ H' _ ⟨_, _, _, _, s⟩ => SqL.of (s.lst (z5.lst hO))) ?_ ?_⟩
        · rintro j y σ H6 hj ⟨v7, v8, v9, rfl, s6⟩
          obtain ⟨u, htm, rfl⟩ := ref_of hj
          obtain ⟨n, fa, le, ht, n1, n30, fa0, faB⟩ := ((hts u htm).sm z5).sm s6
          have hp6 := s6.1 _ _ rfl hp5
          refine ⟨u, _, rfl, SqT.of ht, rfl, _, _, rfl, _, _, rfl, _, _, rfl, rfl, ?_⟩
          refine ⟨_, rfl, p, dx, _, rfl, hp6, rfl, _, rfl, _, rfl, _, rfl, p, dx, t, n, fa, le, rfl, hp6, n1, n30, fa0, faB, fun H7 s7 => ?_⟩
          refine ⟨_, rfl, _, rfl, _, rfl, _, rfl, n, fa, le, p, rfl, n1, n30, fa0, faB, .inr ⟨dx, t, s7 _ _ hp6, fun H8 s8 => ?_⟩⟩
          exact ⟨wonShows n fa le t, rfl, _, rfl, iteF ⟨_, _, _, rfl, s6.trans (Sm.of (s7.trans s8))⟩⟩
        rintro σ H6 ⟨v7, v8, v9, rfl, s6⟩
        have hp6 := s6.1 _ _ rfl hp5
        refine ⟨_, rfl, _, rfl, iteT ?_⟩
        refine ⟨_, rfl, p, CW, dx, _, _, rfl, hp6, OW.cl, OW.nF, rfl, t, rfl, _, rfl, iteF ?_⟩
        have tk : takeB h l t = true := by
          unfold wonShows at ok
          exact (Bool.and_eq_true_iff.mp ok).1
        refine ⟨_, rfl, _, rfl, _, rfl, _, rfl, p, CW, dx, _, _, rfl, hp6, OW.cl, OW.nF, rfl, f, h, l, t, rfl, h1, h30, h0, l0, tk, fun u nu => ?_⟩
        have hp7 : (upd H6 u (.tup [.int (h - t), .int (f * t)])) p = some (.ins CW dx (wonF t)) := by rw [upd_ne (ne_of_none hp6 nu)]; exact hp6
        refine ⟨_, rfl, _, rfl, _, rfl, p, CW, dx, _, _, rfl, hp7, OW.cl, OW.nF, rfl, h, t, rfl, rfl, _, rfl, _, rfl, p, CW, dx, _, _, rfl, hp7, OW.cl, OW.nF, rfl, f, t, rfl, rfl, .inl (f_small h1 h30), (by show 2 ≤ sizeLine; decide), fun u2 nu2 => ?_⟩
        have hu : (upd (upd H6 u (.tup [.int (h - t), .int (f * t)])) u2 (.tup [.int (h - t), .int (f * t)])) u = some (.tup ([h - t, f * t].map V.int)) := by rw [upd_ne (ne_of_none upd_same nu2)]; exact upd_same
        refine ⟨u, u2, [h - t, f * t], [h - t, f * t], rfl, rfl, SqT.of hu, SqT.of upd_same, _, rfl, ?_⟩
        rw [decide_eq_true rfl]
        refine iteT ⟨_, rfl, .ref u, .ty "tuple", .type "tuple", .type "tuple", true, rfl, .ty _, .base (.tup hu), kit_ty (by decide +kernel), ?_⟩
        exact q _ ((z5.trans s6).trans (Sm.of ((same_upd nu).trans (same_upd nu2))))
      · rintro σ H2 ⟨v5, v6, v7, v8, v9, v10, rfl, s2⟩
        exact q H2 s2
/-! ### _law_takings_right -/
def spTR : Sp := fun vs H Q _ => ∃ (f h l c : Int), vs = [.int f, .int h, .int l, .int c] ∧ 1 ≤ f ∧ f ≤ 30 ∧ 0 ≤ h ∧ h < Bd ∧ 0 ≤ l ∧ ∀ H', Same H H' → Q (.bl true) H'
abbrev nTR : List Str := ["_law_factor_here", "_law_heap_here", "_law_limit", "_law_cell", "_law_k", "_law_most", "_law_taking", "_law_after"]
theorem scTR : FnScope nTR ["_law_factor_here", "_law_heap_here", "_law_limit", "_law_cell"] (defScope sLawTakingsRight) := ⟨rfl, rfl, rfl, by decide +kernel, rfl, by decide +kernel, by decide +kernel⟩
theorem four_at {d : Int} (d0 : 0 ≤ d) (d1 : d < 4) : ∃ v, atI ([1, 7, 49, 343].map V.int) d = some (.int v) ∧ 0 < v ∧ v < 1000 := by
  have hd : d.toNat = 0 ∨ d.toNat = 1 ∨ d.toNat = 2 ∨ d.toNat = 3 := by omega
  rcases hd with e | e | e | e
  · exact ⟨1, vat d0 (by rw [e]; rfl), by omega, by omega⟩
  · exact ⟨7, vat d0 (by rw [e]; rfl), by omega, by omega⟩
  · exact ⟨49, vat d0 (by rw [e]; rfl), by omega, by omega⟩
  · exact ⟨343, vat d0 (by rw [e]; rfl), by omega, by omega⟩
theorem ok_takings_right {f CL CW fIW : Addr} {fd : FuncData} (F : Fun K "_law_takings_right" "_law_takings_right" sLawTakingsRight f fd)
    (OW : One K mg "Won" "taking" CW fIW) (II : IsF K CL CW)
    (D_l_lost : Df P w K mg base "_law_lost" 3 ["_law_factor_here", "_law_heap_here", "_law_limit"] spLLost)
    (D_told : Df P w K mg base "told" 4 ["factor", "heap", "limit"] (spTold CL CW))
    (D_behind : Df P w K mg base "behind" 4 ["factor", "heap", "limit", "taking"] spBehind)
    (m_range : mg "range" = none) (m_isinstance : mg "isinstance" = none) (m_min : mg "min" = none) :
    FnOk P w K mg base CX0 5 f fd ["_law_factor_here", "_law_heap_here", "_law_limit", "_law_cell"] spTR := by
  refine F.ok scTR (fun vs H Q E h => ?_) (fun cdv A outer s H vs Q E hr h => ?_)
  · obtain ⟨f, h, l, c, rfl, _⟩ := h
    rfl
  · obtain ⟨f, h, l, c, rfl, h1, h30, h0, hB, l0, q⟩ := h
    obtain ⟨f_l_lost, fd_l_lost, G_l_lost, k_l_lost, b_l_lost, g_l_lost⟩ := D_l_lost
    obtain ⟨f_told, fd_told, G_told, k_told, b_told, g_told⟩ := D_told
    obtain ⟨f_behind, fd_behind, G_behind, k_behind, b_behind, g_behind⟩ := D_behind
    have r_l_lost : Room 3 _ := hr.mono (by decide)
    have r_told : Room 4 _ := hr.mono (by decide)
    have r_behind : Room 4 _ := hr.mono (by decide)
    refine ⟨_, (pss_cons (ps_for PassesOwn.never rfl (pi_range1 (by rfl) m_range (pa_cons pe_int pa_nil)) (pg_name (i := 4) scTR.nd rfl (Or.inl rfl))
        (pss_cons (ps_set (i := 5) scTR.nd rfl (Or.inl rfl) (pe_callB (call_min2 rfl) (by rfl) m_min (by decide +kernel) (pa_cons (pv 1) (pa_cons (pv 2) pa_nil))))
        (pss_one (ps_if (PW.pt (pw_and (pt_cmpR op_gt (pv 5) pe_int (nomark _)) (pw_and1 (pt_val (pe_call G_l_lost r_l_lost (by rfl) g_l_lost k_l_lost b_l_lost .nil pass0 (pa_cons (pv 0) (pa_cons (pv 1) (pa_cons (pv 2) pa_nil)))))))) (pss_cons (ps_set (i := 6) scTR.nd rfl (Or.inl rfl) (pe_op op_add pe_int (pe_op op_mod (pe_op op_add (pe_op op_fdiv (pv 3) (pe_ix ix_tup (pe_tup (pa_cons pe_int (pa_cons pe_int (pa_cons pe_int (pa_cons pe_int pa_nil))))) (pv 4) (fun _ _ => rfl))) (pe_op op_mul pe_int (pv 4))) (pv 5))))
            (pss_cons (ps_set (i := 7) scTR.nd rfl (Or.inl rfl) (pe_call G_behind r_behind (by rfl) g_behind k_behind b_behind .nil pass0 (pa_cons (pv 0) (pa_cons (pv 1) (pa_cons (pv 2) (pa_cons (pv 6) pa_nil))))))
            (pss_one (ps_if (PW.pt (pw_or (pt_cmpR (op_neTu hr.units) (pv 7) (pe_tup (pa_cons (pe_op op_sub (pv 1) (pv 6)) (pa_cons (pe_op op_mul (pv 0) (pv 6)) pa_nil))) (nomark _)) (pw_or1 (pt_not (pt_val (pe_callB call_isi (by rfl) m_isinstance (by decide +kernel) (pa_cons (pe_call G_told r_told (by rfl) g_told k_told b_told .nil pass0 (pa_cons (pv 0) (pa_cons (pe_ix ix_tup (pv 7) pe_int (fun _ _ => rfl)) (pa_cons (pe_ix ix_tup (pv 7) pe_int (fun _ _ => rfl)) pa_nil)))) (pa_cons (pe_glob (v := .ref CW) (by rfl) OW.mgC rfl) pa_nil)))))))) pss_never pss_nil)))) pss_nil))))
      (pss_one (ps_ret pe_bl))), ?_⟩
    refine ⟨4, rfl, by decide, by decide, for_range (n := 4) (fun i σ H' => ∃ v4 v5 v6 v7, σ = [some (.int f), some (.int h), some (.int l), some (.int c), v4, v5, v6, v7] ∧ Same H H') ⟨none, none, none, none, rfl, Same.refl H⟩ ?_ ?_⟩
    · rintro i σ H1 hi ⟨v4, v5, v6, v7, rfl, s1⟩
      refine ⟨_, rfl, _, rfl, h, l, rfl, ?_⟩
      rw [min2]
      refine ⟨_, rfl, min h l, 0, rfl, rfl, _, rfl, ?_⟩
      refine ite2 (fun z => ?_) (fun _ => ⟨_, _, _, _, rfl, s1⟩)
      have m0 : 0 < min h l := of_decide_eq_true z
      refine ⟨_, rfl, _, rfl, _, rfl, f, h, l, rfl, h1, h30, h0, hB, fun H2 s2 => ⟨_, rfl, ?_⟩⟩
      refine ite2 (fun cl => ?_) (fun _ => ⟨_, _, _, _, rfl, s1.trans s2⟩)
      refine ⟨_, rfl, (by show 4 ≤ sizeLine; decide), fun t nt => ?_⟩
      obtain ⟨v, hv, v0, v1⟩ := four_at (d := 0 + (i : Int)) (by omega) (by omega)
      refine ⟨_, rfl, t, [1, 7, 49, 343].map V.int, 0 + (i : Int), _, rfl, rfl, SqT.of upd_same, hv, c, v, rfl, rfl, ⟨v0, by omega⟩, _, rfl, 31, 0 + (i : Int), rfl, rfl, .inl (big64 (by decide) (by decide)), _, _, rfl, rfl, _, rfl, _, min h l, rfl, rfl, m0, 1, _, rfl, rfl, ?_⟩
      have s3 : Same H (upd H2 t (.tup ([1, 7, 49, 343].map V.int))) := s1.trans (s2.trans (same_upd nt))
      have y0 := Int.emod_nonneg (c / v + 31 * (0 + (i : Int))) (show min h l ≠ 0 by omega)
      have y1 := Int.emod_lt_of_pos (c / v + 31 * (0 + (i : Int))) m0
      show gName 6 (V.int (1 + (c / v + 31 * (0 + (i : Int))) % min h l)) [some (.int f), some (.int h), some (.int l), some (.int c), some (.int (0 + (i : Int))), some (.int (min h l)), v6, v7] (upd H2 t (.tup ([1, 7, 49, 343].map V.int))) _
      generalize upd H2 t (.tup ([1, 7, 49, 343].map V.int)) = H3 at s3
      generalize (c / v + 31 * (0 + (i : Int))) % min h l = y at y0 y1
      have tk : takeB h l (1 + y) = true := by
        rw [take_min, decide_eq_true (show 1 ≤ 1 + y by omega), decide_eq_true (show 1 + y ≤ min h l by omega)]
        rfl
      refine ⟨_, rfl, _, rfl, _, rfl, _, rfl, f, h, l, 1 + y, rfl, h1, h30, h0, l0, tk, fun u nu => ?_⟩
      refine ⟨_, rfl, _, rfl, _, rfl, h, 1 + y, rfl, rfl, _, rfl, _, rfl, f, 1 + y, rfl, rfl, .inl (f_small h1 h30), (by show 2 ≤ sizeLine; decide), fun u2 nu2 => ?_⟩
      have hu : (upd (upd H3 u (.tup [.int (h - (1 + y)), .int (f * (1 + y))])) u2 (.tup [.int (h - (1 + y)), .int (f * (1 + y))])) u = some (.tup ([h - (1 + y), f * (1 + y)].map V.int)) := by rw [upd_ne (ne_of_none upd_same nu2)]; exact upd_same
      have s4 : Same H (upd (upd H3 u (.tup [.int (h - (1 + y)), .int (f * (1 + y))])) u2 (.tup [.int (h - (1 + y)), .int (f * (1 + y))])) := s3.trans ((same_upd nu).trans (same_upd nu2))
      refine ⟨u, u2, [h - (1 + y), f * (1 + y)], [h - (1 + y), f * (1 + y)], rfl, rfl, SqT.of hu, SqT.of upd_same, _, rfl, iteNS rfl ?_⟩
      have lt := lost_not h1 h0 cl (show 0 < 1 + y by omega) (by omega) (by omega)
      have fp : 0 ≤ f * (1 + y) := Int.mul_nonneg (by omega) (by omega)
      refine ⟨_, rfl, .ref u, rfl, u, _, 0, _, rfl, rfl, SqT.of hu, rfl, .ref u, rfl, u, _, 1, _, rfl, rfl, SqT.of hu, rfl, f, h - (1 + y), f * (1 + y), rfl, h1, h30, by omega, by omega, fp, fun e => ?_, fun m z e tl p dx H5 s5 np hp => ?_⟩
      · rw [lt] at e
        cases e
      · refine ⟨.ref p, .ref CW, .ref CW, .ref CW, true, rfl, .own CW, II.tyW OW hp, II.kWW, _, rfl, iteF ?_⟩
        exact ⟨_, _, _, _, rfl, s4.trans s5⟩
    · rintro σ H1 ⟨v4, v5, v6, v7, rfl, s1⟩
      exact q H1 s1
end
end TA
set_option Elab.async false
set_option linter.all false
set_option maxRecDepth 100000
set_option maxHeartbeats 4000000
namespace TA
open PySem PySem.Spec PyProof.Rows L2
def turns (m : Nat) : Nat := (Builtin.Range.rangeSize 0 (m : Int) (1 + (m : Int) / 3)).toNat
theorem turns_ok : ∀ m : Fin 64, Builtin.Range.small 0 (m.1 : Int) (1 + (m.1 : Int) / 3) = true ∧ Builtin.Range.rangeSize 0 (m.1 : Int) (1 + (m.1 : Int) / 3) = (turns m.1 : Int) ∧
    ∀ i : Fin 64, i.1 < turns m.1 → (i.1 : Int) * (1 + (m.1 : Int) / 3) ≤ 62 := by decide +kernel
theorem turns_le : ∀ m : Fin 64, turns m.1 ≤ 63 := by decide +kernel
theorem rg {m : Nat} (h : m ≤ 63) : RgC 0 (m : Int) (1 + (m : Int) / 3) (turns m) ∧ ∀ i, i < turns m → 0 ≤ 0 + (i : Int) * (1 + (m : Int) / 3) ∧ 0 + (i : Int) * (1 + (m : Int) / 3) ≤ 62 := by
  obtain ⟨h1, h2, h3⟩ := turns_ok ⟨m, by omega⟩
  have h4 := turns_le ⟨m, by omega⟩
  refine ⟨⟨by omega, by omega, h1, h2⟩, fun i hi => ?_⟩
  have h4' : turns m ≤ 63 := h4
  have := h3 ⟨i, by omega⟩ hi
  have hn : 0 ≤ (i : Int) * (1 + (m : Int) / 3) := Int.mul_nonneg (by omega) (by omega)
  have e : (i : Int) * (1 + (m : Int) / 3) ≤ 62 := this
  omega
theorem cut63 (ns : List Int) : cutV (ns.map V.int) none (some 63) = (ns.take 63).map V.int := by
  unfold cutV
  rw [show HT.sIx (ns.map V.int).length (ns.map V.int).length (some 63) = min 63 (ns.map V.int).length from HT.sIx_nat _ _ 63, HT.sIx_none, List.drop_zero, Nat.sub_zero, List.map_take]
  by_cases c : 63 ≤ (ns.map V.int).length
  · rw [Nat.min_eq_left c]
  · rw [Nat.min_eq_right (by omega), List.take_length, List.take_of_length_le (by omega)]

theorem bd69 : (10 : Int) ^ 35 + T40 * 10 ^ 28 < Bd := by decide +kernel
theorem wide40 {v : Int} (v0 : 0 ≤ v) (v1 : v < T40) : CMulW v (10 ^ 28) := by
  refine wide_mul (a := 200) (b := 200) ?_ (by decide +kernel) (by decide) (by decide) (by decide)
  have e : v.natAbs < (10 : Nat) ^ 40 := by
    have e2 : ((10 : Nat) ^ 40 : Nat) = T40.toNat := by decide +kernel
    rw [e2]
    omega
  exact Nat.lt_trans e (by decide +kernel)
theorem great_ok {v : Int} (v0 : 0 ≤ v) (v1 : v < T40) : 1 ≤ (10 : Int) ^ 35 + v * 10 ^ 28 ∧ (10 : Int) ^ 35 + v * 10 ^ 28 < Bd := by
  have p28 : (0 : Int) < 10 ^ 28 := by decide +kernel
  have p35 : (1 : Int) < 10 ^ 35 := by decide +kernel
  have h1 : 0 ≤ v * 10 ^ 28 := Int.mul_nonneg v0 (Int.le_of_lt p28)
  have h2 : v * 10 ^ 28 ≤ T40 * 10 ^ 28 := Int.mul_le_mul_of_nonneg_right (Int.le_of_lt v1) (Int.le_of_lt p28)
  have h3 := bd69
  generalize v * 10 ^ 28 = A at h1 h2 ⊢
  generalize T40 * 10 ^ 28 = B at h2 h3
  generalize (10 : Int) ^ 35 = C at p35 h3 ⊢
  generalize Bd = D at h3 ⊢
  omega
theorem last_of {m : List Int} {t : Int} {ns : List Int} (e : ns = m ++ [t]) : ns.getLast? = some t := by
  rw [e, List.getLast?_append]
  rfl
theorem p13 : parts 2 13 = [13] := by decide +kernel
theorem p12 : parts 2 12 = [8, 3, 1] := by decide +kernel
theorem p50 : parts 5 0 = [] := by decide +kernel
theorem p16 : parts 1 6 = [4, 2] := by decide +kernel
theorem p37 : parts 3 7 = [6, 1] := by decide +kernel
section
variable {P : Program} {w : World} {K : PySem.W.Frag} {mg : Str → Option Value} {base : Heap}
/-! ### the law -/
def spLaw (K : PySem.W.Frag) (T : Addr) : Sp := fun vs H Q _ => ∃ (a : Addr) (ns : List Int), vs = [.ref a] ∧ SqL K H a (ns.map V.int) ∧ (∀ z ∈ ns, Bits z) ∧ GxR.TabG H T ∧ ∀ H', Q (.bl true) H'
abbrev nLaw : List Str := ["_law_script", "_law_k", "_law_factor_here", "_law_heap_here", "_law_limit", "_law_others", "_law_great", "_law_found", "_law_other"]
theorem scLaw : FnScope nLaw ["_law_script"] (defScope sLaw) := ⟨rfl, rfl, rfl, by decide +kernel, rfl, by decide +kernel, by decide +kernel⟩
theorem ok_law {f T CL CW fIL fIW : Addr} {fd : FuncData} (F : Fun K "law" "law" sLaw f fd)
    (OL : One K mg "Lost" "parts" CL fIL) (OW : One K mg "Won" "taking" CW fIW) (II : IsF K CL CW)
    (D_l_cell_at : Df P w K mg base "_law_cell_at" 1 ["_law_script", "_law_k"] (spCellAt K))
    (D_l_factor : Df P w K mg base "_law_factor" 2 ["_law_script", "_law_k"] (spFactor K))
    (D_l_heap : Df P w K mg base "_law_heap" 3 ["_law_script", "_law_k", "_law_factor_here"] (spHeap K))
    (D_l_limits : Df P w K mg base "_law_limits" 3 ["_law_factor_here", "_law_heap_here"] spLimits)
    (D_l_parts : Df P w K mg base "_law_parts" 2 ["_law_factor_here", "_law_heap_here"] spParts)
    (D_l_right : Df P w K mg base "_law_right" 5 ["_law_factor_here", "_law_heap_here", "_law_limit", "_law_others"] (spRight T))
    (D_l_takings_right : Df P w K mg base "_law_takings_right" 5 ["_law_factor_here", "_law_heap_here", "_law_limit", "_law_cell"] spTR)
    (D_l_value : Df P w K mg base "_law_value" 2 ["_law_cell", "_law_k", "_law_limit"] spValue)
    (D_told : Df P w K mg base "told" 4 ["factor", "heap", "limit"] (spTold CL CW))
    (m_range : mg "range" = none) (m_len : mg "len" = none) (m_abs : mg "abs" = none) (m_isinstance : mg "isinstance" = none) :
    FnOk P w K mg base CX0 6 f fd ["_law_script"] (spLaw K T) := by
  refine F.ok scLaw (fun vs H Q E h => ?_) (fun cdv A outer s H vs Q E hr h => ?_)
  · obtain ⟨f, _, rfl, _⟩ := h
    rfl
  · obtain ⟨a, ns, rfl, hS, hb, hT, q⟩ := h
    obtain ⟨f_l_cell_at, fd_l_cell_at, G_l_cell_at, k_l_cell_at, b_l_cell_at, g_l_cell_at⟩ := D_l_cell_at
    obtain ⟨f_l_factor, fd_l_factor, G_l_factor, k_l_factor, b_l_factor, g_l_factor⟩ := D_l_factor
    obtain ⟨f_l_heap, fd_l_heap, G_l_heap, k_l_heap, b_l_heap, g_l_heap⟩ := D_l_heap
    obtain ⟨f_l_limits, fd_l_limits, G_l_limits, k_l_limits, b_l_limits, g_l_limits⟩ := D_l_limits
    obtain ⟨f_l_parts, fd_l_parts, G_l_parts, k_l_parts, b_l_parts, g_l_parts⟩ := D_l_parts
    obtain ⟨f_l_right, fd_l_right, G_l_right, k_l_right, b_l_right, g_l_right⟩ := D_l_right
    obtain ⟨f_l_takings_right, fd_l_takings_right, G_l_takings_right, k_l_takings_right, b_l_takings_right, g_l_takings_right⟩ := D_l_takings_right
    obtain ⟨f_l_value, fd_l_value, G_l_value, k_l_value, b_l_value, g_l_value⟩ := D_l_value
    obtain ⟨f_told, fd_told, G_told, k_told, b_told, g_told⟩ := D_told
    have r_l_cell_at : Room 1 _ := hr.mono (by decide)
    have r_l_factor : Room 2 _ := hr.mono (by decide)
    have r_l_heap : Room 3 _ := hr.mono (by decide)
    have r_l_limits : Room 3 _ := hr.mono (by decide)
    have r_l_parts : Room 2 _ := hr.mono (by decide)
    have r_l_right : Room 5 _ := hr.mono (by decide)
    have r_l_takings_right : Room 5 _ := hr.mono (by decide)
    have r_l_value : Room 2 _ := hr.mono (by decide)
    have r_told : Room 4 _ := hr.mono (by decide)
    refine ⟨_, (pss_cons (ps_set (i := 0) scLaw.nd rfl (Or.inl rfl) (pe_slice sl_list (pv 0) po_none (po_some pe_int)))
      (pss_cons (ps_for PassesOwn.never rfl (pi_range3 (by rfl) m_range (pa_cons pe_int (pa_cons (pe_callB call_len_seq (by rfl) m_len (by decide +kernel) (pa_cons (pv 0) pa_nil)) (pa_cons (pe_op op_add pe_int (pe_op op_fdiv (pe_callB call_len_seq (by rfl) m_len (by decide +kernel) (pa_cons (pv 0) pa_nil)) pe_int)) pa_nil)))) (pg_name (i := 1) scLaw.nd rfl (Or.inl rfl))
        (pss_cons (ps_set (i := 2) scLaw.nd rfl (Or.inl rfl) (pe_call G_l_factor r_l_factor (by rfl) g_l_factor k_l_factor b_l_factor .nil pass0 (pa_cons (pv 0) (pa_cons (pv 1) pa_nil))))
        (pss_cons (ps_set (i := 3) scLaw.nd rfl (Or.inl rfl) (pe_call G_l_heap r_l_heap (by rfl) g_l_heap k_l_heap b_l_heap .nil pass0 (pa_cons (pv 0) (pa_cons (pv 1) (pa_cons (pv 2) pa_nil)))))
        (pss_one (ps_for PassesOwn.never rfl (pi_list (pe_call G_l_limits r_l_limits (by rfl) g_l_limits k_l_limits b_l_limits .nil pass0 (pa_cons (pv 2) (pa_cons (pv 3) pa_nil)))) (pg_name (i := 4) scLaw.nd rfl (Or.inl rfl))
          (pss_cons (ps_set (i := 5) scLaw.nd rfl (Or.inl rfl) (pe_lst (pa_cons (pe_tup (pa_cons (pv 2) (pa_cons (pv 3) (pa_cons (pe_op op_add (pv 4) pe_int) pa_nil)))) (pa_cons (pe_tup (pa_cons (pe_op op_add (pe_op op_mod (pv 2) pe_int) pe_int) (pa_cons (pv 3) (pa_cons (pv 4) pa_nil)))) (pa_cons (pe_tup (pa_cons (pv 2) (pa_cons (pe_op op_add (pv 3) pe_int) (pa_cons (pv 4) pa_nil)))) pa_nil)))))
          (pss_cons (ps_if (pt_not (pt_val (pe_call G_l_right r_l_right (by rfl) g_l_right k_l_right b_l_right .nil pass0 (pa_cons (pv 2) (pa_cons (pv 3) (pa_cons (pv 4) (pa_cons (pv 5) pa_nil))))))) pss_never pss_nil)
          (pss_one (ps_if (pt_not (pt_val (pe_call G_l_takings_right r_l_takings_right (by rfl) g_l_takings_right k_l_takings_right b_l_takings_right .nil pass0 (pa_cons (pv 2) (pa_cons (pv 3) (pa_cons (pv 4) (pa_cons (pe_op op_mod (pe_callB call_abs (by rfl) m_abs (by decide +kernel) (pa_cons (pe_call G_l_cell_at r_l_cell_at (by rfl) g_l_cell_at k_l_cell_at b_l_cell_at .nil pass0 (pa_cons (pv 0) (pa_cons (pv 1) pa_nil))) pa_nil)) (pe_op op_pow pe_int pe_int)) pa_nil))))))) pss_never pss_nil)))))))))
      (pss_cons (ps_set (i := 2) scLaw.nd rfl (Or.inl rfl) (pe_call G_l_factor r_l_factor (by rfl) g_l_factor k_l_factor b_l_factor .nil pass0 (pa_cons (pv 0) (pa_cons pe_int pa_nil))))
      (pss_cons (ps_set (i := 6) scLaw.nd rfl (Or.inl rfl) (pe_op op_add (pe_op op_pow pe_int pe_int) (pe_op op_mulW (pe_call G_l_value r_l_value (by rfl) g_l_value k_l_value b_l_value .nil pass0 (pa_cons (pe_call G_l_cell_at r_l_cell_at (by rfl) g_l_cell_at k_l_cell_at b_l_cell_at .nil pass0 (pa_cons (pv 0) (pa_cons pe_int pa_nil))) (pa_cons pe_int (pa_cons pe_int pa_nil)))) (pe_op op_pow pe_int pe_int))))
      (pss_cons (ps_set (i := 4) scLaw.nd rfl (Or.inl rfl) (pe_ix ix_list (pe_call G_l_parts r_l_parts (by rfl) g_l_parts k_l_parts b_l_parts .nil pass0 (pa_cons (pv 2) (pa_cons (pv 6) pa_nil))) (pe_un un_neg pe_int) (fun _ _ => rfl)))
      (pss_cons (ps_if (PW.pt (pw_or (pt_not (pt_val (pe_call G_l_right r_l_right (by rfl) g_l_right k_l_right b_l_right .nil pass0 (pa_cons (pv 2) (pa_cons (pv 6) (pa_cons (pv 4) (pa_cons (pe_lst pa_nil) pa_nil))))))) (pw_or1 (pt_not (pt_val (pe_call G_l_right r_l_right (by rfl) g_l_right k_l_right b_l_right .nil pass0 (pa_cons (pv 2) (pa_cons (pv 6) (pa_cons (pe_op op_sub (pv 4) pe_int) (pa_cons (pe_lst pa_nil) pa_nil)))))))))) pss_never pss_nil)
      (pss_cons (ps_par (i := 7) (j := 8) (by rfl) scLaw.nd rfl rfl (by decide) rfl rfl (pa_cons (pe_call G_told r_told (by rfl) g_told k_told b_told .nil pass0 (pa_cons pe_int (pa_cons pe_int (pa_cons pe_int pa_nil)))) (pa_cons (pe_call G_told r_told (by rfl) g_told k_told b_told .nil pass0 (pa_cons pe_int (pa_cons pe_int (pa_cons pe_int pa_nil)))) pa_nil)) (by rfl))
      (pss_cons (ps_if (PW.pt (pw_or (pt_not (pt_val (pe_callB call_isi (by rfl) m_isinstance (by decide +kernel) (pa_cons (pv 7) (pa_cons (pe_glob (v := .ref CL) (by rfl) OL.mgC rfl) pa_nil))))) (pw_or (pt_cmpR (op_neL hr.units) (pe_fld (pv 7) rfl) (pe_lst (pa_cons pe_int pa_nil)) (nomark _)) (pw_or (pt_not (pt_val (pe_callB call_isi (by rfl) m_isinstance (by decide +kernel) (pa_cons (pv 8) (pa_cons (pe_glob (v := .ref CW) (by rfl) OW.mgC rfl) pa_nil))))) (pw_or1 (pt_cmpR op_ne (pe_fld (pv 8) rfl) pe_int (nomark _))))))) pss_never pss_nil)
      (pss_one (ps_ret (pe_and (pe_cmpR (op_eqL hr.units) (pe_fld (pe_call G_told r_told (by rfl) g_told k_told b_told .nil pass0 (pa_cons pe_int (pa_cons pe_int (pa_cons pe_int pa_nil)))) rfl) (pe_lst pa_nil) (nomark _)) (pe_and (pe_cmpR (op_eqL hr.units) (pe_fld (pe_call G_told r_told (by rfl) g_told k_told b_told .nil pass0 (pa_cons pe_int (pa_cons pe_int (pa_cons pe_int pa_nil)))) rfl) (pe_lst (pa_cons pe_int (pa_cons pe_int pa_nil))) (nomark _)) (pe_one (pe_callB call_isi (by rfl) m_isinstance (by decide +kernel) (pa_cons (pe_call G_told r_told (by rfl) g_told k_told b_told .nil pass0 (pa_cons pe_int (pa_cons pe_int (pa_cons pe_int pa_nil)))) (pa_cons (pe_glob (v := .ref CL) (by rfl) OL.mgC rfl) pa_nil)))))))))))))))), ?_⟩
    have P40 : (0 : Int) ≤ 40 ∧ (40 : Int) ≤ 1000000 ∧ (10 : Int).natAbs < 2 ^ 64 := by decide
    have P28 : (0 : Int) ≤ 28 ∧ (28 : Int) ≤ 1000000 ∧ (10 : Int).natAbs < 2 ^ 64 := by decide
    have P35 : (0 : Int) ≤ 35 ∧ (35 : Int) ≤ 1000000 ∧ (10 : Int).natAbs < 2 ^ 64 := by decide
    -- script = script[:63]
    refine ⟨.ref a, rfl, 63, rfl, a, _, rfl, hS, fun p np => ?_⟩
    rw [cut63]
    have hb2 : ∀ z ∈ ns.take 63, Bits z := fun z hz => hb z (List.mem_of_mem_take hz)
    have hm : (ns.take 63).length ≤ 63 := by rw [List.length_take]; exact Nat.min_le_left _ _
    generalize ns.take 63 = L at hb2 hm
    have cB : ∀ c, (c = 0 ∨ c ∈ L) → Bits c := fun c hc => by
      rcases hc with e | e
      · rw [e]; exact bits_zero
      · exact hb2 c e
    have hl : (L.map V.int).length ≤ 63 := by rw [List.length_map]; exact hm
    obtain ⟨hrg, hk⟩ := rg hl
    have hp0 : (upd H p (.lst (L.map V.int))) p = some (.lst (L.map V.int)) ∧ GxR.TabG (upd H p (.lst (L.map V.int))) T := ⟨upd_same, (Sm.of (same_upd np)).tab hT⟩
    generalize upd H p (.lst (L.map V.int)) = H1 at hp0
    have sq : ∀ {H' : Hp}, (H' p = some (.lst (L.map V.int)) ∧ GxR.TabG H' T) → SqL K H' p (L.map V.int) := fun e => SqL.of e.1
    have zm : ∀ {H' H'' : Hp}, Sm H' H'' → (H' p = some (.lst (L.map V.int)) ∧ GxR.TabG H' T) → (H'' p = some (.lst (L.map V.int)) ∧ GxR.TabG H'' T) := fun s e => ⟨s.lst e.1, s.tab e.2⟩
    have zs : ∀ {H' H'' : Hp}, Same H' H'' → (H' p = some (.lst (L.map V.int)) ∧ GxR.TabG H' T) → (H'' p = some (.lst (L.map V.int)) ∧ GxR.TabG H'' T) := fun s e => zm (Sm.of s) e
    refine ⟨.ref p, rfl, p, _, rfl, .inl (sq hp0), .ref p, rfl, p, _, rfl, .inl (sq hp0), _, 3, rfl, rfl, ⟨by decide, by decide⟩, _, _, rfl, rfl, 0, _, _, _, rfl, hrg, ?_⟩
    refine for_rangeC (lo := 0) (n := turns (L.map V.int).length) (fun i σ H' => ∃ v1 v2 v3 v4 v5 v6 v7 v8, σ = [some (.ref p), v1, v2, v3, v4, v5, v6, v7, v8] ∧ (H' p = some (.lst (L.map V.int)) ∧ GxR.TabG H' T)) ⟨none, none, none, none, none, none, none, none, rfl, hp0⟩ ?_ ?_
    · rintro i σ H2 hi ⟨v1, v2, v3, v4, v5, v6, v7, v8, rfl, hp2⟩
      obtain ⟨k0, k1⟩ := hk i hi
      generalize 0 + (i : Int) * (1 + ((L.map V.int).length : Int) / 3) = k at k0 k1
      refine ⟨_, rfl, _, rfl, p, L, k, rfl, sq hp2, k0, by omega, fun f H3 f1 f30 s3 => ?_⟩
      have hp3 := zs s3 hp2
      refine ⟨_, rfl, _, rfl, _, rfl, p, L, k, f, rfl, sq hp3, hb2, k0, by omega, f1, f30, fun h H4 h0 hHB s4 => ?_⟩
      have hp4 := zs s4 hp3
      have hBd : h < Bd := Int.lt_trans hHB (by decide +kernel)
      have hBd1 : h + 1 < Bd := Int.lt_of_le_of_lt (show h + 1 ≤ HB by omega) (by decide +kernel)
      -- for limit in limits(factor, heap)
      refine ⟨_, rfl, _, rfl, f, h, rfl, f1, f30, h0, hBd, fun rl H5 ls hl7 hls s5 nrl hRl => ?_⟩
      have hp5 := zs s5 hp4
      refine ⟨rl, rfl, ⟨_, SqL.of hRl⟩, for_list (K := K) (a := rl) (xs := ls.map V.int) (fun j σ H' => ∃ v4 v5, σ = [some (.ref p), some (.int k), some (.int f), some (.int h), v4, v5, v6, v7, v8] ∧ (H' p = some (.lst (L.map V.int)) ∧ GxR.TabG H' T) ∧ Sm H5 H') ⟨v4, v5, rfl, hp5, Sm.refl _⟩ (fun j σ H' _ ⟨_, _, _, _, s⟩ => SqL.of (s.lst hRl)) ?_ ?_⟩
      · rintro j y σ H6 hj ⟨v4, v5, rfl, hp6, s6⟩
        obtain ⟨l, hlj, rfl⟩ := item_of hj
        have l0 := (hls l (List.mem_of_getElem? hlj)).1
        have m0 := Int.emod_nonneg f (show (30 : Int) ≠ 0 by decide)
        have m1 := Int.emod_lt_of_pos f (show (0 : Int) < 30 by decide)
        have small3 : (3 : Nat) ≤ sizeLine := by decide
        -- others
        refine ⟨_, rfl, _, rfl, _, rfl, l, 1, rfl, rfl, small3, fun t1 nt1 => ?_⟩
        refine ⟨_, rfl, f, 30, rfl, rfl, (by show (0 : Int) < 30; decide), _, 1, rfl, rfl, _, rfl, _, rfl, small3, fun t2 nt2 => ?_⟩
        refine ⟨_, rfl, _, rfl, h, 1, rfl, rfl, _, rfl, small3, fun t3 nt3 => ?_⟩
        refine ⟨small3, fun o no => ?_⟩
        have a1 : Sm H6 (upd H6 t1 (.tup [.int f, .int h, .int (l + 1)])) := Sm.upd nt1
        have o1 : Oth (upd H6 t1 (.tup [.int f, .int h, .int (l + 1)])) t1 := ⟨_, _, _, upd_same, f1, f30, h0, hBd⟩
        have a2 : Sm (upd H6 t1 (.tup [.int f, .int h, .int (l + 1)])) (upd (upd H6 t1 (.tup [.int f, .int h, .int (l + 1)])) t2 (.tup [.int (f % 30 + 1), .int h, .int l])) := Sm.upd nt2
        have o2 : Oth (upd (upd H6 t1 (.tup [.int f, .int h, .int (l + 1)])) t2 (.tup [.int (f % 30 + 1), .int h, .int l])) t2 := ⟨_, _, _, upd_same, by omega, by omega, h0, hBd⟩
        have a3 : Sm (upd (upd H6 t1 (.tup [.int f, .int h, .int (l + 1)])) t2 (.tup [.int (f % 30 + 1), .int h, .int l])) (upd (upd (upd H6 t1 (.tup [.int f, .int h, .int (l + 1)])) t2 (.tup [.int (f % 30 + 1), .int h, .int l])) t3 (.tup [.int f, .int (h + 1), .int l])) := Sm.upd nt3
        have o3 : Oth (upd (upd (upd H6 t1 (.tup [.int f, .int h, .int (l + 1)])) t2 (.tup [.int (f % 30 + 1), .int h, .int l])) t3 (.tup [.int f, .int (h + 1), .int l])) t3 := ⟨_, _, _, upd_same, f1, f30, by omega, hBd1⟩
        have a4 : Sm (upd (upd (upd H6 t1 (.tup [.int f, .int h, .int (l + 1)])) t2 (.tup [.int (f % 30 + 1), .int h, .int l])) t3 (.tup [.int f, .int (h + 1), .int l])) (upd (upd (upd (upd H6 t1 (.tup [.int f, .int h, .int (l + 1)])) t2 (.tup [.int (f % 30 + 1), .int h, .int l])) t3 (.tup [.int f, .int (h + 1), .int l])) o (.lst ([t1, t2, t3].map V.ref))) := Sm.upd no
        have hts : ∀ t ∈ [t1, t2, t3], Oth (upd (upd (upd (upd H6 t1 (.tup [.int f, .int h, .int (l + 1)])) t2 (.tup [.int (f % 30 + 1), .int h, .int l])) t3 (.tup [.int f, .int (h + 1), .int l])) o (.lst ([t1, t2, t3].map V.ref))) t := fun t ht => by
          simp only [List.mem_cons, List.not_mem_nil, or_false] at ht
          rcases ht with e | e | e
          · rw [e]; exact o1.sm (a2.trans (a3.trans a4))
          · rw [e]; exact o2.sm (a3.trans a4)
          · rw [e]; exact o3.sm a4
        have a5 := a1.trans (a2.trans (a3.trans a4))
        -- right
        refine ⟨_, rfl, _, rfl, _, rfl, _, rfl, f, h, l, o, [t1, t2, t3], rfl, f1, f30, h0, hBd, l0, upd_same, hts, a5.tab hp6.2, fun H7 s7 => ⟨_, rfl, iteF ?_⟩⟩
        have hp7 := zm (a5.trans s7) hp6
        -- takings_right
        refine ⟨_, rfl, _, rfl, _, rfl, _, rfl, _, rfl, p, L, k, rfl, sq hp7, k0, fun c hc => ?_⟩
        refine ⟨c, rfl, 10, 40, rfl, rfl, P40, _, _, rfl, rfl, (by show (0 : Int) < 10 ^ 40; decide), f, h, l, _, rfl, f1, f30, h0, hBd, l0, fun H8 s8 => ⟨_, rfl, iteF ?_⟩⟩
        exact ⟨_, _, rfl, zs s8 hp7, s6.trans ((a5.trans s7).trans (Sm.of s8))⟩
      · rintro σ H6 ⟨v4, v5, rfl, hp6, s6⟩
        exact ⟨_, _, _, _, _, _, _, _, rfl, hp6⟩
    rintro σ H2 ⟨v1, v2, v3, v4, v5, v6, v7, v8, rfl, hp2⟩
    refine ⟨_, rfl, p, L, 0, rfl, sq hp2, by decide, by decide, fun f H3 f1 f30 s3 => ?_⟩
    have hp3 := zs s3 hp2
    refine ⟨10, 35, rfl, rfl, P35, _, rfl, p, L, 0, rfl, sq hp3, by decide, fun c hc => ?_⟩
    refine ⟨c, 4, 900000, rfl, cB c hc, by decide, by decide, by decide, by decide, fun v H4 w0 w1 s4 => ?_⟩
    have hp4 := zs s4 hp3
    obtain ⟨g0, g1⟩ := great_ok w0 w1
    refine ⟨10, 28, rfl, rfl, P28, _, _, rfl, rfl, wide40 w0 w1, _, _, rfl, rfl, ?_⟩
    show gName 6 (V.int ((10 : Int) ^ 35 + v * 10 ^ 28)) _ H4 _
    generalize (10 : Int) ^ 35 + v * 10 ^ 28 = g at g0 g1
    -- limit = parts(factor, great)[-1]
    refine ⟨_, rfl, _, rfl, f, g, rfl, f1, f30, by omega, g1, fun r H5 hlen s5 nr hR => ?_⟩
    have hp5 := zs s5 hp4
    rcases cases_last (parts f g) with e | ⟨m, z, e⟩
    · have := (parts_ok f1 (show 0 ≤ g by omega)).1
      rw [e] at this
      have : g = 0 := by simpa using this.symm
      omega
    have z1 := (parts_mem f1 z (by rw [e]; simp)).1
    rw [e] at hR
    refine ⟨1, rfl, r, _, _, _, rfl, rfl, SqL.of hR, vlast rfl, ?_⟩
    -- right, twice
    refine ⟨_, rfl, _, rfl, _, rfl, Nat.zero_le _, fun u nu => ?_⟩
    refine ⟨f, g, z, u, [], rfl, f1, f30, by omega, g1, by omega, upd_same, (fun t ht => by cases ht), (Sm.upd nu).tab hp5.2, fun H6 s6 => ⟨_, rfl, iteF ?_⟩⟩
    have hp6 := zm ((Sm.upd (o := .lst []) nu).trans s6) hp5
    refine ⟨_, rfl, _, rfl, _, rfl, z, 1, rfl, rfl, Nat.zero_le _, fun u2 nu2 => ?_⟩
    refine ⟨f, g, z - 1, u2, [], rfl, f1, f30, by omega, g1, by omega, upd_same, (fun t ht => by cases ht), (Sm.upd nu2).tab hp6.2, fun H7 s7 => ⟨_, rfl, iteF ?_⟩⟩
    -- told(2, 13, 12), told(2, 12, 11)
    have bd : ∀ {x : Int}, x ≤ 13 → x < Bd := fun hx => Int.lt_of_le_of_lt hx (by decide +kernel)
    refine ⟨2, 13, 12, rfl, by decide, by decide, by decide, bd (by decide), by decide, fun _ _ p1 dx1 a1 H8 s8 np1 na1 npa1 hp8 ha8 => ?_, fun m t e tl => ?_⟩
    rotate_left
    · have := last_of e
      rw [p13] at this
      have : (13 : Int) = t := Option.some.inj this
      omega
    refine ⟨2, 12, 11, rfl, by decide, by decide, by decide, bd (by decide), by decide, fun e => ?_, fun m t e tl p2 dx2 H9 s9 np2 hp9 => ?_⟩
    · rw [p12] at e
      exact absurd e (by decide)
    have et : t = 1 := by
      have := last_of e
      rw [p12] at this
      exact (Option.some.inj this).symm
    rw [et] at hp9
    rw [p13] at ha8
    have hq8 := s9 _ _ hp8
    have hqa := s9 _ _ ha8
    refine ⟨_, _, rfl, ?_⟩
    refine ⟨_, rfl, .ref p1, .ref CL, .ref CL, .ref CL, true, rfl, .own CL, II.tyL OL hq8, II.kLL, _, rfl, iteF ?_⟩
    refine ⟨_, rfl, p1, CL, dx1, _, _, rfl, hq8, OL.cl, OL.nF, rfl, (by show 1 ≤ sizeLine; decide), fun u3 nu3 => ?_⟩
    have hqa2 : (upd H9 u3 (.lst [.int 13])) a1 = some (.lst (([13] : List Int).map V.int)) := by rw [upd_ne (ne_of_none hqa nu3)]; exact hqa
    have hp92 : (upd H9 u3 (.lst [.int 13])) p2 = some (.ins CW dx2 (wonF 1)) := by rw [upd_ne (ne_of_none hp9 nu3)]; exact hp9
    refine ⟨a1, u3, [13], [13], rfl, rfl, SqL.of hqa2, SqL.of upd_same, _, rfl, iteNS rfl ?_⟩
    refine ⟨_, rfl, .ref p2, .ref CW, .ref CW, .ref CW, true, rfl, .own CW, II.tyW OW hp92, II.kWW, _, rfl, iteF ?_⟩
    refine ⟨_, rfl, p2, CW, dx2, _, _, rfl, hp92, OW.cl, OW.nF, rfl, rfl, _, rfl, iteNS rfl ?_⟩
    -- told(5, 0, 9).parts == []
    refine ⟨5, 0, 9, rfl, by decide, by decide, by decide, bd (by decide), by decide, fun _ _ p3 dx3 a3 H10 s10 np3 na3 npa3 hp10 ha10 => ?_, fun m t e tl => ?_⟩
    rotate_left
    · have := last_of e
      rw [p50] at this
      cases this
    rw [p50] at ha10
    refine ⟨p3, CL, dx3, _, _, rfl, hp10, OL.cl, OL.nF, rfl, Nat.zero_le _, fun u4 nu4 => ?_⟩
    refine ⟨a3, u4, [], [], rfl, rfl, SqL.of (by rw [upd_ne (ne_of_none ha10 nu4)]; exact ha10), SqL.of upd_same, _, rfl, ?_⟩
    rw [decide_eq_true rfl]
    refine iteT ?_
    -- told(1, 6, 1).parts == [4, 2]
    refine ⟨1, 6, 1, rfl, by decide, by decide, by decide, bd (by decide), by decide, fun _ _ p4 dx4 a4 H11 s11 np4 na4 npa4 hp11 ha11 => ?_, fun m t e tl => ?_⟩
    rotate_left
    · have := last_of e
      rw [p16] at this
      have : (2 : Int) = t := Option.some.inj this
      omega
    rw [p16] at ha11
    refine ⟨p4, CL, dx4, _, _, rfl, hp11, OL.cl, OL.nF, rfl, (by show 2 ≤ sizeLine; decide), fun u5 nu5 => ?_⟩
    refine ⟨a4, u5, [4, 2], [4, 2], rfl, rfl, SqL.of (by rw [upd_ne (ne_of_none ha11 nu5)]; exact ha11), SqL.of upd_same, _, rfl, ?_⟩
    rw [decide_eq_true rfl]
    refine iteT ?_
    -- isinstance(told(3, 7, 0), Lost)
    refine ⟨3, 7, 0, rfl, by decide, by decide, by decide, bd (by decide), by decide, fun _ _ p5 dx5 a5 H12 s12 np5 na5 npa5 hp12 ha12 => ?_, fun m t e tl => ?_⟩
    rotate_left
    · have := last_of e
      rw [p37] at this
      have : (1 : Int) = t := Option.some.inj this
      omega
    exact ⟨.ref p5, .ref CL, .ref CL, .ref CL, true, rfl, .own CL, II.tyL OL hp12, II.kLL, q _⟩
end
end TA
set_option Elab.async false
set_option linter.all false
set_option maxRecDepth 100000
set_option maxHeartbeats 4000000
namespace TA
open PySem PySem.Spec PyProof.Rows L2
/-! ### the end of a law row where a def nm of the top holds a generator expression -/
theorem walk_ofWL {l : PySem.W.OpenLaw} {n k : Nat} {q : Program} {loose : List Str} {XP : (Str → Option Value) → Heap → Prop} {YP : World → Heap → Prop} {d : DefRec} {K : Params → PySem.W.Frag} {CX : World → CXT} {x nm : Str}
    (hn : l.most = some n) (hn2 : n ≤ sizeLine) (hdf : d.params.defaults = []) (hr : Room k callerA) (hrec : ((recsOf q).any fun e => e.name == nm) = true) (hY : ∀ (w : World) (h : Heap), YP w h → (K w.params).In h)
    (F : ∀ (w : World) (mg : Str → Option Value) (fa : Addr) (h : Heap), YP w h → (K w.params).In h → h.Ns mainGlobals mg → mg d.name = some (.ref fa) → (∀ fb, mg nm = some (.ref fb) → LamX.OwnTab (K w.params) fb h) → LamX.LawAtS l w (K w.params) (CX w) k n x mg fa h)
    (hCX : ∀ (w : World) (H : Hp) (s : Shared) (e : Value) (s' : Shared), CX w [] H s (fun _ _ _ => False) e s' → False) :
    PySem.W.WalkO q loose XP YP l.row.toRowW d [] (fun f vs => PySem.call f vs) := by
  refine Att.attach_callB hn hdf fun w s₀ s₁ mg mb fa o pm cd doc a vs ns G Y ho hd hcd hmg hobj hints hlen hbits hg => ?_
  have KX := hY w _ Y
  have own : ∀ fb, mg nm = some (.ref fb) → LamX.OwnTab (K w.params) fb s₁.heap := fun fb hfb c P o1 fd1 e dd vs1 sl k1 k2 k3 k4 k5 => by
    obtain ⟨dL, hm, hn1⟩ := List.any_eq_true.mp hrec
    have hn2 : dL.name = nm := beq_iff_eq.mp hn1
    obtain ⟨a', o', fd', c', P', h1, h2, h3, h4, h5, h6⟩ := G.T.tab dL hm
    rw [hn2, hfb] at h1
    cases h1
    have g1 := KX _ _ k1
    rw [g1] at h2
    cases h2
    rw [k2] at h3
    cases h3
    rw [k3] at h4
    cases h4
    obtain ⟨⟨oc, vc, e1, _, e3, e4⟩, hP⟩ := h6
    have g2 := KX _ _ k4
    rw [g2] at e1
    cases e1
    cases e3
    rw [k5] at e4
    cases e4
    exact hP
  obtain ⟨fd, cs, sp, hT, nT, C, hb, hsp, hF⟩ := F w mg fa _ Y KX G.T.g hmg own
  exact LamX.law_callTs KX G.T.g G.T.b G.T.builtins G.T.nolimit hg hT nT C G.T.bmain hobj hints (Nat.le_trans hlen hn2) hr hF hb (fun H hH hS => hsp H a ns hlen hbits hH hS) fun H e s' => hCX w H s₁ e s'
theorem tabB_of {base : Heap} {mg : Str → Option Value} {c T : Addr} (h : LamX.TabB base mg c T) : GxR.TabB base mg c T := ⟨h.code, h.bm, h.gP⟩
theorem func_mk {K : PySem.W.Frag} {x qual : Str} {st : Stmt} {f c : Addr} {oc : Value} {od an : Option Addr} {osl : Array (Option Value)} {kV doc pm ct : Value} (l : K.lookup f = some ⟨oc, od, .func (PySem.W.fnOf x qual (defArgs st) (defBody st) (defScope st) .none kV doc pm an (.ref c) ct), osl⟩)
    (cc : PySem.W.codeIn K (.ref c) qual = true) (k : PySem.W.keepIn K (.ref f) = true) : FunC K x qual st f (PySem.W.fnOf x qual (defArgs st) (defBody st) (defScope st) .none kV doc pm an (.ref c) ct) c := ⟨⟨oc, od, kV, doc, pm, an, ct, osl, rfl, l, cc⟩, k⟩
theorem tab0 {H : Hp} {T : Addr} (h : H T = some (.tbl #[])) : GxR.TabG H T := ⟨#[], h, trivial⟩
end TA
set_option Elab.async false
set_option linter.all false
set_option maxRecDepth 100000
set_option maxHeartbeats 4000000
namespace TA
open PySem PySem.Spec PyProof.Rows L2
/-! ### what the top has left -/
theorem all_mk {l : PySem.W.OpenLaw} {w : World} {K : PySem.W.Frag} {h : Heap} {mg : Str → Option Value} {fa f1 f2 f3 f4 f5 f6 f7 f8 f9 f10 f11 f12 f13 f14 f15 f16 f17 f18 f19 f20 f21 f22 f23 f24 f25 f26 f27 f28 f29 f30 f31 f32 f33 f34 f35 : Addr} (X : K.In h) (G : h.Ns mainGlobals mg) (hfa : mg "law" = some (.ref fa))
    {od1 od2 od3 od4 od5 od6 od7 od8 od9 od10 od11 od12 od13 od14 od15 od16 od17 od18 od19 od20 od21 od22 od23 od24 od25 od26 od27 od28 od29 od30 od31 od32 od33 od34 od35 an1 an2 an3 an4 an5 an6 an7 an8 an9 an10 an11 an12 an13 an14 an15 an16 an17 an18 an19 an20 an21 an22 an23 an24 an25 an26 an27 an28 an29 an30 an31 an32 an33 an34 an35 : Option Addr} {sl1 sl2 sl3 sl4 sl5 sl6 sl7 sl8 sl9 sl10 sl11 sl12 sl13 sl14 sl15 sl16 sl17 sl18 sl19 sl20 sl21 sl22 sl23 sl24 sl25 sl26 sl27 sl28 sl29 sl30 sl31 sl32 sl33 sl34 sl35 : Array (Option Value)} {oc1 kV1 dc1 pm1 cd1 ct1 oc2 kV2 dc2 pm2 ct2 oc3 kV3 dc3 pm3 cd3 ct3 oc4 kV4 dc4 pm4 cd4 ct4 oc5 kV5 dc5 pm5 cd5 ct5 oc6 kV6 dc6 pm6 cd6 ct6 oc7 kV7 dc7 pm7 cd7 ct7 oc8 kV8 dc8 pm8 cd8 ct8 oc9 kV9 dc9 pm9 cd9 ct9 oc10 kV10 dc10 pm10 cd10 ct10 oc11 kV11 dc11 pm11 cd11 ct11 oc12 kV12 dc12 pm12 cd12 ct12 oc13 kV13 dc13 pm13 cd13 ct13 oc14 kV14 dc14 pm14 cd14 ct14 oc15 kV15 dc15 pm15 cd15 ct15 oc16 kV16 dc16 pm16 cd16 ct16 oc17 kV17 dc17 pm17 cd17 ct17 oc18 kV18 dc18 pm18 cd18 ct18 oc19 kV19 dc19 pm19 cd19 ct19 oc20 kV20 dc20 pm20 cd20 ct20 oc21 kV21 dc21 pm21 cd21 ct21 oc22 kV22 dc22 pm22 cd22 ct22 oc23 kV23 dc23 pm23 cd23 ct23 oc24 kV24 dc24 pm24 cd24 ct24 oc25 kV25 dc25 pm25 cd25 ct25 oc26 kV26 dc26 pm26 cd26 ct26 oc27 kV27 dc27 pm27 cd27 ct27 oc28 kV28 dc28 pm28 cd28 ct28 oc29 kV29 dc29 pm29 cd29 ct29 oc30 kV30 dc30 pm30 cd30 ct30 oc31 kV31 dc31 pm31 cd31 ct31 oc32 kV32 dc32 pm32 cd32 ct32 oc33 kV33 dc33 pm33 cd33 ct33 oc34 kV34 dc34 pm34 cd34 ct34 oc35 kV35 dc35 pm35 cd35 ct35 : Value}
    {cc T : Addr} {ee : Value} {edd : Option Addr} {evs : Array Value} {esl : Array (Option Value)}
    (a1 : PySem.W.nsIn K mainGlobals "is_whole" = some (some (.ref f1))) (l1 : K.lookup f1 = some ⟨oc1, od1, .func (PySem.W.fnOf "is_whole" "is_whole" (defArgs sIsWhole) (defBody sIsWhole) (defScope sIsWhole) .none kV1 dc1 pm1 an1 cd1 ct1), sl1⟩) (c1 : PySem.W.codeIn K cd1 "is_whole" = true) (k1 : PySem.W.keepIn K (.ref f1) = true)
    (a2 : PySem.W.nsIn K mainGlobals "is_whole_list" = some (some (.ref f2))) (l2 : K.lookup f2 = some ⟨oc2, od2, .func (PySem.W.fnOf "is_whole_list" "is_whole_list" (defArgs sIsWholeList) (defBody sIsWholeList) (defScope sIsWholeList) .none kV2 dc2 pm2 an2 (.ref cc) ct2), sl2⟩) (c2 : PySem.W.codeIn K (.ref cc) "is_whole_list" = true) (k2 : PySem.W.keepIn K (.ref f2) = true)
    (a3 : PySem.W.nsIn K mainGlobals "is_taking" = some (some (.ref f3))) (l3 : K.lookup f3 = some ⟨oc3, od3, .func (PySem.W.fnOf "is_taking" "is_taking" (defArgs sIsTaking) (defBody sIsTaking) (defScope sIsTaking) .none kV3 dc3 pm3 an3 cd3 ct3), sl3⟩) (c3 : PySem.W.codeIn K cd3 "is_taking" = true) (k3 : PySem.W.keepIn K (.ref f3) = true)
    (a4 : PySem.W.nsIn K mainGlobals "check_factor" = some (some (.ref f4))) (l4 : K.lookup f4 = some ⟨oc4, od4, .func (PySem.W.fnOf "check_factor" "check_factor" (defArgs sCkFactor) (defBody sCkFactor) (defScope sCkFactor) .none kV4 dc4 pm4 an4 cd4 ct4), sl4⟩) (c4 : PySem.W.codeIn K cd4 "check_factor" = true) (k4 : PySem.W.keepIn K (.ref f4) = true)
    (a5 : PySem.W.nsIn K mainGlobals "check_heap" = some (some (.ref f5))) (l5 : K.lookup f5 = some ⟨oc5, od5, .func (PySem.W.fnOf "check_heap" "check_heap" (defArgs sCkHeap) (defBody sCkHeap) (defScope sCkHeap) .none kV5 dc5 pm5 an5 cd5 ct5), sl5⟩) (c5 : PySem.W.codeIn K cd5 "check_heap" = true) (k5 : PySem.W.keepIn K (.ref f5) = true)
    (a6 : PySem.W.nsIn K mainGlobals "sum_of" = some (some (.ref f6))) (l6 : K.lookup f6 = some ⟨oc6, od6, .func (PySem.W.fnOf "sum_of" "sum_of" (defArgs sSumOf) (defBody sSumOf) (defScope sSumOf) .none kV6 dc6 pm6 an6 cd6 ct6), sl6⟩) (c6 : PySem.W.codeIn K cd6 "sum_of" = true) (k6 : PySem.W.keepIn K (.ref f6) = true)
    (a7 : PySem.W.nsIn K mainGlobals "add_step" = some (some (.ref f7))) (l7 : K.lookup f7 = some ⟨oc7, od7, .func (PySem.W.fnOf "add_step" "add_step" (defArgs sAddStep) (defBody sAddStep) (defScope sAddStep) .none kV7 dc7 pm7 an7 cd7 ct7), sl7⟩) (c7 : PySem.W.codeIn K cd7 "add_step" = true) (k7 : PySem.W.keepIn K (.ref f7) = true)
    (a8 : PySem.W.nsIn K mainGlobals "row_past" = some (some (.ref f8))) (l8 : K.lookup f8 = some ⟨oc8, od8, .func (PySem.W.fnOf "row_past" "row_past" (defArgs sRowPast) (defBody sRowPast) (defScope sRowPast) .none kV8 dc8 pm8 an8 cd8 ct8), sl8⟩) (c8 : PySem.W.codeIn K cd8 "row_past" = true) (k8 : PySem.W.keepIn K (.ref f8) = true)
    (l9 : K.lookup f9 = some ⟨oc9, od9, .func (PySem.W.fnOf "__init__" "Lost.__init__" (defArgs sLostInit) (defBody sLostInit) (defScope sLostInit) .none kV9 dc9 pm9 an9 cd9 ct9), sl9⟩) (c9 : PySem.W.codeIn K cd9 "Lost.__init__" = true) (k9 : PySem.W.keepIn K (.ref f9) = true)
    (l10 : K.lookup f10 = some ⟨oc10, od10, .func (PySem.W.fnOf "shows" "Lost.shows" (defArgs sLostShows) (defBody sLostShows) (defScope sLostShows) .none kV10 dc10 pm10 an10 cd10 ct10), sl10⟩) (c10 : PySem.W.codeIn K cd10 "Lost.shows" = true) (k10 : PySem.W.keepIn K (.ref f10) = true)
    (l11 : K.lookup f11 = some ⟨oc11, od11, .func (PySem.W.fnOf "__init__" "Won.__init__" (defArgs sWonInit) (defBody sWonInit) (defScope sWonInit) .none kV11 dc11 pm11 an11 cd11 ct11), sl11⟩) (c11 : PySem.W.codeIn K cd11 "Won.__init__" = true) (k11 : PySem.W.keepIn K (.ref f11) = true)
    (l12 : K.lookup f12 = some ⟨oc12, od12, .func (PySem.W.fnOf "shows" "Won.shows" (defArgs sWonShows) (defBody sWonShows) (defScope sWonShows) .none kV12 dc12 pm12 an12 cd12 ct12), sl12⟩) (c12 : PySem.W.codeIn K cd12 "Won.shows" = true) (k12 : PySem.W.keepIn K (.ref f12) = true)
    (a13 : PySem.W.nsIn K mainGlobals "is_lost" = some (some (.ref f13))) (l13 : K.lookup f13 = some ⟨oc13, od13, .func (PySem.W.fnOf "is_lost" "is_lost" (defArgs sIsLost) (defBody sIsLost) (defScope sIsLost) .none kV13 dc13 pm13 an13 cd13 ct13), sl13⟩) (c13 : PySem.W.codeIn K cd13 "is_lost" = true) (k13 : PySem.W.keepIn K (.ref f13) = true)
    (a14 : PySem.W.nsIn K mainGlobals "left_by" = some (some (.ref f14))) (l14 : K.lookup f14 = some ⟨oc14, od14, .func (PySem.W.fnOf "left_by" "left_by" (defArgs sLeftBy) (defBody sLeftBy) (defScope sLeftBy) .none kV14 dc14 pm14 an14 cd14 ct14), sl14⟩) (c14 : PySem.W.codeIn K cd14 "left_by" = true) (k14 : PySem.W.keepIn K (.ref f14) = true)
    (a15 : PySem.W.nsIn K mainGlobals "told" = some (some (.ref f15))) (l15 : K.lookup f15 = some ⟨oc15, od15, .func (PySem.W.fnOf "told" "told" (defArgs sTold) (defBody sTold) (defScope sTold) .none kV15 dc15 pm15 an15 cd15 ct15), sl15⟩) (c15 : PySem.W.codeIn K cd15 "told" = true) (k15 : PySem.W.keepIn K (.ref f15) = true)
    (a16 : PySem.W.nsIn K mainGlobals "behind" = some (some (.ref f16))) (l16 : K.lookup f16 = some ⟨oc16, od16, .func (PySem.W.fnOf "behind" "behind" (defArgs sBehind) (defBody sBehind) (defScope sBehind) .none kV16 dc16 pm16 an16 cd16 ct16), sl16⟩) (c16 : PySem.W.codeIn K cd16 "behind" = true) (k16 : PySem.W.keepIn K (.ref f16) = true)
    (a17 : PySem.W.nsIn K mainGlobals "check_turn" = some (some (.ref f17))) (l17 : K.lookup f17 = some ⟨oc17, od17, .func (PySem.W.fnOf "check_turn" "check_turn" (defArgs sCkTurn) (defBody sCkTurn) (defScope sCkTurn) .none kV17 dc17 pm17 an17 cd17 ct17), sl17⟩) (c17 : PySem.W.codeIn K cd17 "check_turn" = true) (k17 : PySem.W.keepIn K (.ref f17) = true)
    (a18 : PySem.W.nsIn K mainGlobals "check_limit" = some (some (.ref f18))) (l18 : K.lookup f18 = some ⟨oc18, od18, .func (PySem.W.fnOf "check_limit" "check_limit" (defArgs sCkLimit) (defBody sCkLimit) (defScope sCkLimit) .none kV18 dc18 pm18 an18 cd18 ct18), sl18⟩) (c18 : PySem.W.codeIn K cd18 "check_limit" = true) (k18 : PySem.W.keepIn K (.ref f18) = true)
    (a19 : PySem.W.nsIn K mainGlobals "check_taking" = some (some (.ref f19))) (l19 : K.lookup f19 = some ⟨oc19, od19, .func (PySem.W.fnOf "check_taking" "check_taking" (defArgs sCkTaking) (defBody sCkTaking) (defScope sCkTaking) .none kV19 dc19 pm19 an19 cd19 ct19), sl19⟩) (c19 : PySem.W.codeIn K cd19 "check_taking" = true) (k19 : PySem.W.keepIn K (.ref f19) = true)
    (a20 : PySem.W.nsIn K mainGlobals "_law_cell_at" = some (some (.ref f20))) (l20 : K.lookup f20 = some ⟨oc20, od20, .func (PySem.W.fnOf "_law_cell_at" "_law_cell_at" (defArgs sCellAt) (defBody sCellAt) (defScope sCellAt) .none kV20 dc20 pm20 an20 cd20 ct20), sl20⟩) (c20 : PySem.W.codeIn K cd20 "_law_cell_at" = true) (k20 : PySem.W.keepIn K (.ref f20) = true)
    (a21 : PySem.W.nsIn K mainGlobals "_law_draw" = some (some (.ref f21))) (l21 : K.lookup f21 = some ⟨oc21, od21, .func (PySem.W.fnOf "_law_draw" "_law_draw" (defArgs sDraw) (defBody sDraw) (defScope sDraw) .none kV21 dc21 pm21 an21 cd21 ct21), sl21⟩) (c21 : PySem.W.codeIn K cd21 "_law_draw" = true) (k21 : PySem.W.keepIn K (.ref f21) = true)
    (a22 : PySem.W.nsIn K mainGlobals "_law_value" = some (some (.ref f22))) (l22 : K.lookup f22 = some ⟨oc22, od22, .func (PySem.W.fnOf "_law_value" "_law_value" (defArgs sValue) (defBody sValue) (defScope sValue) .none kV22 dc22 pm22 an22 cd22 ct22), sl22⟩) (c22 : PySem.W.codeIn K cd22 "_law_value" = true) (k22 : PySem.W.keepIn K (.ref f22) = true)
    (a23 : PySem.W.nsIn K mainGlobals "_law_factor" = some (some (.ref f23))) (l23 : K.lookup f23 = some ⟨oc23, od23, .func (PySem.W.fnOf "_law_factor" "_law_factor" (defArgs sFactor) (defBody sFactor) (defScope sFactor) .none kV23 dc23 pm23 an23 cd23 ct23), sl23⟩) (c23 : PySem.W.codeIn K cd23 "_law_factor" = true) (k23 : PySem.W.keepIn K (.ref f23) = true)
    (a24 : PySem.W.nsIn K mainGlobals "_law_steps" = some (some (.ref f24))) (l24 : K.lookup f24 = some ⟨oc24, od24, .func (PySem.W.fnOf "_law_steps" "_law_steps" (defArgs sSteps) (defBody sSteps) (defScope sSteps) .none kV24 dc24 pm24 an24 cd24 ct24), sl24⟩) (c24 : PySem.W.codeIn K cd24 "_law_steps" = true) (k24 : PySem.W.keepIn K (.ref f24) = true)
    (a25 : PySem.W.nsIn K mainGlobals "_law_parts" = some (some (.ref f25))) (l25 : K.lookup f25 = some ⟨oc25, od25, .func (PySem.W.fnOf "_law_parts" "_law_parts" (defArgs sParts) (defBody sParts) (defScope sParts) .none kV25 dc25 pm25 an25 cd25 ct25), sl25⟩) (c25 : PySem.W.codeIn K cd25 "_law_parts" = true) (k25 : PySem.W.keepIn K (.ref f25) = true)
    (a26 : PySem.W.nsIn K mainGlobals "_law_heap" = some (some (.ref f26))) (l26 : K.lookup f26 = some ⟨oc26, od26, .func (PySem.W.fnOf "_law_heap" "_law_heap" (defArgs sHeap) (defBody sHeap) (defScope sHeap) .none kV26 dc26 pm26 an26 cd26 ct26), sl26⟩) (c26 : PySem.W.codeIn K cd26 "_law_heap" = true) (k26 : PySem.W.keepIn K (.ref f26) = true)
    (a27 : PySem.W.nsIn K mainGlobals "_law_limits" = some (some (.ref f27))) (l27 : K.lookup f27 = some ⟨oc27, od27, .func (PySem.W.fnOf "_law_limits" "_law_limits" (defArgs sLawLimits) (defBody sLawLimits) (defScope sLawLimits) .none kV27 dc27 pm27 an27 cd27 ct27), sl27⟩) (c27 : PySem.W.codeIn K cd27 "_law_limits" = true) (k27 : PySem.W.keepIn K (.ref f27) = true)
    (a28 : PySem.W.nsIn K mainGlobals "_law_lost" = some (some (.ref f28))) (l28 : K.lookup f28 = some ⟨oc28, od28, .func (PySem.W.fnOf "_law_lost" "_law_lost" (defArgs sLawLost) (defBody sLawLost) (defScope sLawLost) .none kV28 dc28 pm28 an28 cd28 ct28), sl28⟩) (c28 : PySem.W.codeIn K cd28 "_law_lost" = true) (k28 : PySem.W.keepIn K (.ref f28) = true)
    (a29 : PySem.W.nsIn K mainGlobals "_law_whole" = some (some (.ref f29))) (l29 : K.lookup f29 = some ⟨oc29, od29, .func (PySem.W.fnOf "_law_whole" "_law_whole" (defArgs sLWhole) (defBody sLWhole) (defScope sLWhole) .none kV29 dc29 pm29 an29 cd29 ct29), sl29⟩) (c29 : PySem.W.codeIn K cd29 "_law_whole" = true) (k29 : PySem.W.keepIn K (.ref f29) = true)
    (a30 : PySem.W.nsIn K mainGlobals "_law_is_sum" = some (some (.ref f30))) (l30 : K.lookup f30 = some ⟨oc30, od30, .func (PySem.W.fnOf "_law_is_sum" "_law_is_sum" (defArgs sLawIsSum) (defBody sLawIsSum) (defScope sLawIsSum) .none kV30 dc30 pm30 an30 cd30 ct30), sl30⟩) (c30 : PySem.W.codeIn K cd30 "_law_is_sum" = true) (k30 : PySem.W.keepIn K (.ref f30) = true)
    (a31 : PySem.W.nsIn K mainGlobals "_law_says" = some (some (.ref f31))) (l31 : K.lookup f31 = some ⟨oc31, od31, .func (PySem.W.fnOf "_law_says" "_law_says" (defArgs sLawSays) (defBody sLawSays) (defScope sLawSays) .none kV31 dc31 pm31 an31 cd31 ct31), sl31⟩) (c31 : PySem.W.codeIn K cd31 "_law_says" = true) (k31 : PySem.W.keepIn K (.ref f31) = true)
    (a32 : PySem.W.nsIn K mainGlobals "_law_due" = some (some (.ref f32))) (l32 : K.lookup f32 = some ⟨oc32, od32, .func (PySem.W.fnOf "_law_due" "_law_due" (defArgs sLawDue) (defBody sLawDue) (defScope sLawDue) .none kV32 dc32 pm32 an32 cd32 ct32), sl32⟩) (c32 : PySem.W.codeIn K cd32 "_law_due" = true) (k32 : PySem.W.keepIn K (.ref f32) = true)
    (a33 : PySem.W.nsIn K mainGlobals "_law_right" = some (some (.ref f33))) (l33 : K.lookup f33 = some ⟨oc33, od33, .func (PySem.W.fnOf "_law_right" "_law_right" (defArgs sRight) (defBody sRight) (defScope sRight) .none kV33 dc33 pm33 an33 cd33 ct33), sl33⟩) (c33 : PySem.W.codeIn K cd33 "_law_right" = true) (k33 : PySem.W.keepIn K (.ref f33) = true)
    (a34 : PySem.W.nsIn K mainGlobals "_law_takings_right" = some (some (.ref f34))) (l34 : K.lookup f34 = some ⟨oc34, od34, .func (PySem.W.fnOf "_law_takings_right" "_law_takings_right" (defArgs sLawTakingsRight) (defBody sLawTakingsRight) (defScope sLawTakingsRight) .none kV34 dc34 pm34 an34 cd34 ct34), sl34⟩) (c34 : PySem.W.codeIn K cd34 "_law_takings_right" = true) (k34 : PySem.W.keepIn K (.ref f34) = true)
    (a35 : PySem.W.nsIn K mainGlobals "law" = some (some (.ref f35))) (l35 : K.lookup f35 = some ⟨oc35, od35, .func (PySem.W.fnOf "law" "law" (defArgs sLaw) (defBody sLaw) (defScope sLaw) .none kV35 dc35 pm35 an35 cd35 ct35), sl35⟩) (c35 : PySem.W.codeIn K cd35 "law" = true) (k35 : PySem.W.keepIn K (.ref f35) = true)
    (z_type : PySem.W.nsIn K mainGlobals "type" = some none)
    (z_int : PySem.W.nsIn K mainGlobals "int" = some none)
    (z_list : PySem.W.nsIn K mainGlobals "list" = some none)
    (z_bool : PySem.W.nsIn K mainGlobals "bool" = some none)
    (z_tuple : PySem.W.nsIn K mainGlobals "tuple" = some none)
    (z_range : PySem.W.nsIn K mainGlobals "range" = some none)
    (z_reversed : PySem.W.nsIn K mainGlobals "reversed" = some none)
    (z_sum : PySem.W.nsIn K mainGlobals "sum" = some none)
    (z_all : PySem.W.nsIn K mainGlobals "all" = some none)
    (z_len : PySem.W.nsIn K mainGlobals "len" = some none)
    (z_isinstance : PySem.W.nsIn K mainGlobals "isinstance" = some none)
    (z_max : PySem.W.nsIn K mainGlobals "max" = some none)
    (z_min : PySem.W.nsIn K mainGlobals "min" = some none)
    (z_abs : PySem.W.nsIn K mainGlobals "abs" = some none)
    {t_GREATEST_FACTOR : Tok} (y_GREATEST_FACTOR : PySem.W.nsIn K mainGlobals "GREATEST_FACTOR" = some (some (.int 30 t_GREATEST_FACTOR)))
    {CL : Addr} (aCL : PySem.W.nsIn K mainGlobals "Lost" = some (some (.ref CL))) (mIL : PySem.W.findIn K (.ref CL) "__init__" = some (some (.ref f9))) (iIL : PySem.W.isFn K (.ref f9) = true) (mkL : PySem.W.makesIn K CL = true) (nFL : PySem.W.findIn K (.ref CL) "parts" = some none) (mSL : PySem.W.findIn K (.ref CL) "shows" = some (some (.ref f10))) (iSL : PySem.W.isFn K (.ref f10) = true) (pgL : PySem.W.plainGet K CL Str.empty = true) (hdL : PySem.W.hasDictIn K CL = true) (poL : PySem.W.plainOver K CL = true) (saL : PySem.W.findIn K (.ref CL) "__setattr__" = some (some (.builtin "object.__setattr__"))) (kcL : PySem.W.keepIn K (.ref CL) = true) (haL : PySem.W.findIn K (.ref CL) "__class__" = some (some (.builtin "object.__class__"))) (hmL : PySem.W.mroIn K CL (.type "object") = some true)
    {CW : Addr} (aCW : PySem.W.nsIn K mainGlobals "Won" = some (some (.ref CW))) (mIW : PySem.W.findIn K (.ref CW) "__init__" = some (some (.ref f11))) (iIW : PySem.W.isFn K (.ref f11) = true) (mkW : PySem.W.makesIn K CW = true) (nFW : PySem.W.findIn K (.ref CW) "taking" = some none) (mSW : PySem.W.findIn K (.ref CW) "shows" = some (some (.ref f12))) (iSW : PySem.W.isFn K (.ref f12) = true) (pgW : PySem.W.plainGet K CW Str.empty = true) (hdW : PySem.W.hasDictIn K CW = true) (poW : PySem.W.plainOver K CW = true) (saW : PySem.W.findIn K (.ref CW) "__setattr__" = some (some (.builtin "object.__setattr__"))) (kcW : PySem.W.keepIn K (.ref CW) = true) (haW : PySem.W.findIn K (.ref CW) "__class__" = some (some (.builtin "object.__class__"))) (hmW : PySem.W.mroIn K CW (.type "object") = some true)
    {CA : Addr} (aCA : PySem.W.nsIn K mainGlobals "Answer" = some (some (.ref CA))) (hn0 : PySem.W.specialIn K (.builtin "object.__class__") "__get__" = some (some (.builtin "getset_descriptor.__get__"))) (htk0 : PySem.W.takesIn K (.builtin "object.__class__") = some true) (kLL : PySem.W.kitOne K (.ref CL) (.ref CL) = some true) (kLW : PySem.W.kitOne K (.ref CL) (.ref CW) = some false) (kWL : PySem.W.kitOne K (.ref CW) (.ref CL) = some false) (kWW : PySem.W.kitOne K (.ref CW) (.ref CW) = some true) (kLA : PySem.W.kitOne K (.ref CL) (.ref CA) = some true) (kWA : PySem.W.kitOne K (.ref CW) (.ref CA) = some true)
    (lc : K.lookup cc = some ⟨ee, edd, .fields evs, esl⟩) (e11 : evs[11]? = some (.ref T)) (nT : K.lookup T = none) (hcd : PySem.W.codeHdIn K cc T = true) (own : ∀ fb, mg "is_whole_list" = some (.ref fb) → LamX.OwnTab K fb h)
    : LamX.LawAtS l w K CX0 6 63 "_law_script" mg fa h := by
  have e := hfa.symm.trans (PySem.W.mg_of X G a35)
  cases e
  have F_is_whole := fun_mk (st := sIsWhole) l1 c1 k1
  have b_is_whole := F_is_whole.binds (ps := ["value", "least"]) fun _ _ _ _ _ _ us hl => match us, hl with | [_, _], _ => rfl
  have g_is_whole := PySem.W.mg_of X G a1
  have C_is_whole_list := func_mk (st := sIsWholeList) l2 c2 k2
  have F_is_whole_list := C_is_whole_list.fn
  have b_is_whole_list := F_is_whole_list.binds (ps := ["numbers", "least"]) fun _ _ _ _ _ _ us hl => match us, hl with | [_, _], _ => rfl
  have g_is_whole_list := PySem.W.mg_of X G a2
  have F_is_taking := fun_mk (st := sIsTaking) l3 c3 k3
  have b_is_taking := F_is_taking.binds (ps := ["heap", "limit", "taking"]) fun _ _ _ _ _ _ us hl => match us, hl with | [_, _, _], _ => rfl
  have g_is_taking := PySem.W.mg_of X G a3
  have F_check_factor := fun_mk (st := sCkFactor) l4 c4 k4
  have b_check_factor := F_check_factor.binds (ps := ["factor"]) fun _ _ _ _ _ _ us hl => match us, hl with | [_], _ => rfl
  have g_check_factor := PySem.W.mg_of X G a4
  have F_check_heap := fun_mk (st := sCkHeap) l5 c5 k5
  have b_check_heap := F_check_heap.binds (ps := ["heap"]) fun _ _ _ _ _ _ us hl => match us, hl with | [_], _ => rfl
  have g_check_heap := PySem.W.mg_of X G a5
  have F_sum_of := fun_mk (st := sSumOf) l6 c6 k6
  have b_sum_of := F_sum_of.binds (ps := ["factor", "heap"]) fun _ _ _ _ _ _ us hl => match us, hl with | [_, _], _ => rfl
  have g_sum_of := PySem.W.mg_of X G a6
  have F_add_step := fun_mk (st := sAddStep) l7 c7 k7
  have b_add_step := F_add_step.binds (ps := ["factor", "row", "place"]) fun _ _ _ _ _ _ us hl => match us, hl with | [_, _, _], _ => rfl
  have g_add_step := PySem.W.mg_of X G a7
  have F_row_past := fun_mk (st := sRowPast) l8 c8 k8
  have b_row_past := F_row_past.binds (ps := ["factor", "heap"]) fun _ _ _ _ _ _ us hl => match us, hl with | [_, _], _ => rfl
  have g_row_past := PySem.W.mg_of X G a8
  have F_Lost___init__ := fun_mk (st := sLostInit) l9 c9 k9
  have b_Lost___init__ := F_Lost___init__.binds (ps := ["self", "parts"]) fun _ _ _ _ _ _ us hl => match us, hl with | [_, _], _ => rfl
  have F_Lost_shows := fun_mk (st := sLostShows) l10 c10 k10
  have b_Lost_shows := F_Lost_shows.binds (ps := ["self", "factor", "heap", "limit"]) fun _ _ _ _ _ _ us hl => match us, hl with | [_, _, _, _], _ => rfl
  have F_Won___init__ := fun_mk (st := sWonInit) l11 c11 k11
  have b_Won___init__ := F_Won___init__.binds (ps := ["self", "taking"]) fun _ _ _ _ _ _ us hl => match us, hl with | [_, _], _ => rfl
  have F_Won_shows := fun_mk (st := sWonShows) l12 c12 k12
  have b_Won_shows := F_Won_shows.binds (ps := ["self", "factor", "heap", "limit"]) fun _ _ _ _ _ _ us hl => match us, hl with | [_, _, _, _], _ => rfl
  have F_is_lost := fun_mk (st := sIsLost) l13 c13 k13
  have b_is_lost := F_is_lost.binds (ps := ["parts", "limit"]) fun _ _ _ _ _ _ us hl => match us, hl with | [_, _], _ => rfl
  have g_is_lost := PySem.W.mg_of X G a13
  have F_left_by := fun_mk (st := sLeftBy) l14 c14 k14
  have b_left_by := F_left_by.binds (ps := ["factor", "heap", "taking"]) fun _ _ _ _ _ _ us hl => match us, hl with | [_, _, _], _ => rfl
  have g_left_by := PySem.W.mg_of X G a14
  have F_told := fun_mk (st := sTold) l15 c15 k15
  have b_told := F_told.binds (ps := ["factor", "heap", "limit"]) fun _ _ _ _ _ _ us hl => match us, hl with | [_, _, _], _ => rfl
  have g_told := PySem.W.mg_of X G a15
  have F_behind := fun_mk (st := sBehind) l16 c16 k16
  have b_behind := F_behind.binds (ps := ["factor", "heap", "limit", "taking"]) fun _ _ _ _ _ _ us hl => match us, hl with | [_, _, _, _], _ => rfl
  have g_behind := PySem.W.mg_of X G a16
  have F_check_turn := fun_mk (st := sCkTurn) l17 c17 k17
  have b_check_turn := F_check_turn.binds (ps := ["factor", "heap", "limit"]) fun _ _ _ _ _ _ us hl => match us, hl with | [_, _, _], _ => rfl
  have g_check_turn := PySem.W.mg_of X G a17
  have F_check_limit := fun_mk (st := sCkLimit) l18 c18 k18
  have b_check_limit := F_check_limit.binds (ps := ["limit"]) fun _ _ _ _ _ _ us hl => match us, hl with | [_], _ => rfl
  have g_check_limit := PySem.W.mg_of X G a18
  have F_check_taking := fun_mk (st := sCkTaking) l19 c19 k19
  have b_check_taking := F_check_taking.binds (ps := ["heap", "limit", "taking"]) fun _ _ _ _ _ _ us hl => match us, hl with | [_, _, _], _ => rfl
  have g_check_taking := PySem.W.mg_of X G a19
  have F_l_cell_at := fun_mk (st := sCellAt) l20 c20 k20
  have b_l_cell_at := F_l_cell_at.binds (ps := ["_law_script", "_law_k"]) fun _ _ _ _ _ _ us hl => match us, hl with | [_, _], _ => rfl
  have g_l_cell_at := PySem.W.mg_of X G a20
  have F_l_draw := fun_mk (st := sDraw) l21 c21 k21
  have b_l_draw := F_l_draw.binds (ps := ["_law_cell", "_law_k", "_law_many"]) fun _ _ _ _ _ _ us hl => match us, hl with | [_, _, _], _ => rfl
  have g_l_draw := PySem.W.mg_of X G a21
  have F_l_value := fun_mk (st := sValue) l22 c22 k22
  have b_l_value := F_l_value.binds (ps := ["_law_cell", "_law_k", "_law_limit"]) fun _ _ _ _ _ _ us hl => match us, hl with | [_, _, _], _ => rfl
  have g_l_value := PySem.W.mg_of X G a22
  have F_l_factor := fun_mk (st := sFactor) l23 c23 k23
  have b_l_factor := F_l_factor.binds (ps := ["_law_script", "_law_k"]) fun _ _ _ _ _ _ us hl => match us, hl with | [_, _], _ => rfl
  have g_l_factor := PySem.W.mg_of X G a23
  have F_l_steps := fun_mk (st := sSteps) l24 c24 k24
  have b_l_steps := F_l_steps.binds (ps := ["_law_factor_here", "_law_number"]) fun _ _ _ _ _ _ us hl => match us, hl with | [_, _], _ => rfl
  have g_l_steps := PySem.W.mg_of X G a24
  have F_l_parts := fun_mk (st := sParts) l25 c25 k25
  have b_l_parts := F_l_parts.binds (ps := ["_law_factor_here", "_law_heap_here"]) fun _ _ _ _ _ _ us hl => match us, hl with | [_, _], _ => rfl
  have g_l_parts := PySem.W.mg_of X G a25
  have F_l_heap := fun_mk (st := sHeap) l26 c26 k26
  have b_l_heap := F_l_heap.binds (ps := ["_law_script", "_law_k", "_law_factor_here"]) fun _ _ _ _ _ _ us hl => match us, hl with | [_, _, _], _ => rfl
  have g_l_heap := PySem.W.mg_of X G a26
  have F_l_limits := fun_mk (st := sLawLimits) l27 c27 k27
  have b_l_limits := F_l_limits.binds (ps := ["_law_factor_here", "_law_heap_here"]) fun _ _ _ _ _ _ us hl => match us, hl with | [_, _], _ => rfl
  have g_l_limits := PySem.W.mg_of X G a27
  have F_l_lost := fun_mk (st := sLawLost) l28 c28 k28
  have b_l_lost := F_l_lost.binds (ps := ["_law_factor_here", "_law_heap_here", "_law_limit"]) fun _ _ _ _ _ _ us hl => match us, hl with | [_, _, _], _ => rfl
  have g_l_lost := PySem.W.mg_of X G a28
  have F_l_whole := fun_mk (st := sLWhole) l29 c29 k29
  have b_l_whole := F_l_whole.binds (ps := ["_law_number"]) fun _ _ _ _ _ _ us hl => match us, hl with | [_], _ => rfl
  have g_l_whole := PySem.W.mg_of X G a29
  have F_l_is_sum := fun_mk (st := sLawIsSum) l30 c30 k30
  have b_l_is_sum := F_l_is_sum.binds (ps := ["_law_factor_here", "_law_parts_here"]) fun _ _ _ _ _ _ us hl => match us, hl with | [_, _], _ => rfl
  have g_l_is_sum := PySem.W.mg_of X G a30
  have F_l_says := fun_mk (st := sLawSays) l31 c31 k31
  have b_l_says := F_l_says.binds (ps := ["_law_said", "_law_due_here"]) fun _ _ _ _ _ _ us hl => match us, hl with | [_, _], _ => rfl
  have g_l_says := PySem.W.mg_of X G a31
  have F_l_due := fun_mk (st := sLawDue) l32 c32 k32
  have b_l_due := F_l_due.binds (ps := ["_law_factor_here", "_law_heap_here", "_law_limit", "_law_found"]) fun _ _ _ _ _ _ us hl => match us, hl with | [_, _, _, _], _ => rfl
  have g_l_due := PySem.W.mg_of X G a32
  have F_l_right := fun_mk (st := sRight) l33 c33 k33
  have b_l_right := F_l_right.binds (ps := ["_law_factor_here", "_law_heap_here", "_law_limit", "_law_others"]) fun _ _ _ _ _ _ us hl => match us, hl with | [_, _, _, _], _ => rfl
  have g_l_right := PySem.W.mg_of X G a33
  have F_l_takings_right := fun_mk (st := sLawTakingsRight) l34 c34 k34
  have b_l_takings_right := F_l_takings_right.binds (ps := ["_law_factor_here", "_law_heap_here", "_law_limit", "_law_cell"]) fun _ _ _ _ _ _ us hl => match us, hl with | [_, _, _, _], _ => rfl
  have g_l_takings_right := PySem.W.mg_of X G a34
  have F_law := fun_mk (st := sLaw) l35 c35 k35
  have m_type := PySem.W.mg_none_of X G z_type
  have m_int := PySem.W.mg_none_of X G z_int
  have m_list := PySem.W.mg_none_of X G z_list
  have m_bool := PySem.W.mg_none_of X G z_bool
  have m_tuple := PySem.W.mg_none_of X G z_tuple
  have m_range := PySem.W.mg_none_of X G z_range
  have m_reversed := PySem.W.mg_none_of X G z_reversed
  have m_sum := PySem.W.mg_none_of X G z_sum
  have m_all := PySem.W.mg_none_of X G z_all
  have m_len := PySem.W.mg_none_of X G z_len
  have m_isinstance := PySem.W.mg_none_of X G z_isinstance
  have m_max := PySem.W.mg_none_of X G z_max
  have m_min := PySem.W.mg_none_of X G z_min
  have m_abs := PySem.W.mg_none_of X G z_abs
  have y_GREATEST_FACTOR := PySem.W.mg_of X G y_GREATEST_FACTOR
  have hT := own f2 g_is_whole_list cc T _ _ _ _ _ _ l2 rfl rfl lc e11
  refine ⟨(PySem.W.fnOf "law" "law" (defArgs sLaw) (defBody sLaw) (defScope sLaw) .none kV35 dc35 pm35 an35 cd35 ct35), [(cc, T)], spLaw K T, fun p hp => ?_, fun p hp => ?_, fun p hp => ?_, fun s v => .of_eq rfl, fun H a ns hl hb hH hS => ⟨a, ns, rfl, hS, hb, tab0 (hH (cc, T) List.mem_cons_self), fun _ => rfl⟩, fun base _ _ hTB => ?_⟩
  · obtain rfl : p = (cc, T) := List.mem_singleton.mp hp
    exact hT
  · obtain rfl : p = (cc, T) := List.mem_singleton.mp hp
    exact nT
  · obtain rfl : p = (cc, T) := List.mem_singleton.mp hp
    exact PySem.W.codeHd_of_K X hcd
  have TB := tabB_of (hTB (cc, T) List.mem_cons_self)
  have OL : One K mg "Lost" "parts" CL f9 := ⟨⟨pgL, hdL, poL, saL⟩, nFL, PySem.W.mg_of X G aCL, ⟨mkL, mIL, iIL, kcL⟩⟩
  have OW : One K mg "Won" "taking" CW f11 := ⟨⟨pgW, hdW, poW, saW⟩, nFW, PySem.W.mg_of X G aCW, ⟨mkW, mIW, iIW, kcW⟩⟩
  have MHL : Meth K CL "shows" f10 := ⟨mSL, iSL, k10⟩
  have MHW : Meth K CW "shows" f12 := ⟨mSW, iSW, k12⟩
  have gA := PySem.W.mg_of X G aCA
  have II : IsF K CL CW := ⟨haL, hmL, haW, hmW, hn0, htk0, kLL, kLW, kWL, kWW⟩
  have G_ckf : FnOk l.prog w K mg base CX0 2 _ _ ["factor"] spCkFactor := ok_ck_factor F_check_factor F_is_whole b_is_whole g_is_whole y_GREATEST_FACTOR m_type m_int
  have G_ckh : FnOk l.prog w K mg base CX0 2 _ _ ["heap"] spCkHeap := ok_ck_heap F_check_heap F_is_whole b_is_whole g_is_whole m_type m_int
  have G_ckl : FnOk l.prog w K mg base CX0 2 _ _ ["limit"] spCkHeap := ok_ck_limit F_check_limit F_is_whole b_is_whole g_is_whole m_type m_int
  have G_ckt : FnOk l.prog w K mg base CX0 3 _ _ ["factor", "heap", "limit"] spCkTurn := ok_ck_turn F_check_turn G_ckf F_check_factor.kp b_check_factor g_check_factor G_ckh F_check_heap.kp b_check_heap g_check_heap G_ckl F_check_limit.kp b_check_limit g_check_limit
  have G_wl : FnOk l.prog w K mg base CX0 3 _ _ ["numbers", "least"] (spIsWholeList K T) := ok_is_whole_list C_is_whole_list TB F_is_whole g_is_whole m_type m_int m_list m_all
  have G_row : FnOk l.prog w K mg base CX0 2 _ _ ["factor", "heap"] spRowPast := ok_row_past F_row_past F_add_step b_add_step g_add_step
  have G_sum_of : FnOk l.prog w K mg base CX0 3 _ _ ["factor", "heap"] spSumOf := ok_sum_of F_sum_of G_row F_row_past.kp b_row_past g_row_past G_ckf F_check_factor.kp b_check_factor g_check_factor G_ckh F_check_heap.kp b_check_heap g_check_heap m_reversed
  have G_is_lost : FnOk l.prog w K mg base CX0 1 _ _ ["parts", "limit"] (spIsLost K) := ok_is_lost F_is_lost
  have G_left_by : FnOk l.prog w K mg base CX0 1 _ _ ["factor", "heap", "taking"] spLeftBy := ok_left_by F_left_by
  have G_is_taking : FnOk l.prog w K mg base CX0 2 _ _ ["heap", "limit", "taking"] spIsTaking := ok_is_taking F_is_taking F_is_whole b_is_whole g_is_whole m_type m_int
  have G_cktk : FnOk l.prog w K mg base CX0 3 _ _ ["heap", "limit", "taking"] spCkTaking := ok_ck_taking F_check_taking G_is_taking F_is_taking.kp b_is_taking g_is_taking
  have GIL : FnOk l.prog w K mg base CX0 1 _ _ ["self", "parts"] (spLostInit K CL) := ok_lost_init F_Lost___init__ OL m_list
  have GIW : FnOk l.prog w K mg base CX0 1 _ _ ["self", "taking"] (spWonInit CW) := ok_won_init F_Won___init__ OW
  have GHL : FnOk l.prog w K mg base CX0 4 _ _ ["self", "factor", "heap", "limit"] (spLostShows K CL T) := ok_lost_shows F_Lost_shows OL G_wl F_is_whole_list.kp b_is_whole_list g_is_whole_list G_sum_of F_sum_of.kp b_sum_of g_sum_of G_is_lost F_is_lost.kp b_is_lost g_is_lost
  have GHW : FnOk l.prog w K mg base CX0 4 _ _ ["self", "factor", "heap", "limit"] (spWonShows CW) := ok_won_shows F_Won_shows OW G_is_taking F_is_taking.kp b_is_taking g_is_taking G_sum_of F_sum_of.kp b_sum_of g_sum_of G_is_lost F_is_lost.kp b_is_lost g_is_lost G_left_by F_left_by.kp b_left_by g_left_by
  have G_told : FnOk l.prog w K mg base CX0 4 _ _ ["factor", "heap", "limit"] (spTold CL CW) := ok_told F_told OL GIL b_Lost___init__ OW GIW b_Won___init__ G_ckt F_check_turn.kp b_check_turn g_check_turn G_sum_of F_sum_of.kp b_sum_of g_sum_of G_is_lost F_is_lost.kp b_is_lost g_is_lost
  have G_behind : FnOk l.prog w K mg base CX0 4 _ _ ["factor", "heap", "limit", "taking"] spBehind := ok_behind F_behind G_ckt F_check_turn.kp b_check_turn g_check_turn G_cktk F_check_taking.kp b_check_taking g_check_taking G_left_by F_left_by.kp b_left_by g_left_by
  have G_cell_at : FnOk l.prog w K mg base CX0 1 _ _ ["_law_script", "_law_k"] (spCellAt K) := ok_cell_at F_l_cell_at m_len
  have G_value : FnOk l.prog w K mg base CX0 2 _ _ ["_law_cell", "_law_k", "_law_limit"] spValue := ok_value F_l_value F_l_draw b_l_draw g_l_draw
  have G_factor : FnOk l.prog w K mg base CX0 2 _ _ ["_law_script", "_law_k"] (spFactor K) := ok_factor F_l_factor F_l_draw b_l_draw g_l_draw F_l_cell_at b_l_cell_at g_l_cell_at m_len
  have G_steps : FnOk l.prog w K mg base CX0 1 _ _ ["_law_factor_here", "_law_number"] spSteps := ok_steps F_l_steps
  have G_parts : FnOk l.prog w K mg base CX0 2 _ _ ["_law_factor_here", "_law_heap_here"] spParts := ok_parts F_l_parts G_steps F_l_steps.kp b_l_steps g_l_steps
  have G_heap : FnOk l.prog w K mg base CX0 3 _ _ ["_law_script", "_law_k", "_law_factor_here"] (spHeap K) := ok_heap F_l_heap F_l_draw b_l_draw g_l_draw F_l_cell_at b_l_cell_at g_l_cell_at F_l_value b_l_value g_l_value G_steps F_l_steps.kp b_l_steps g_l_steps m_len
  have G_lwhole : FnOk l.prog w K mg base CX0 1 _ _ ["_law_number"] spLWhole := ok_lwhole F_l_whole m_isinstance m_int m_bool
  have G_limits : FnOk l.prog w K mg base CX0 3 _ _ ["_law_factor_here", "_law_heap_here"] spLimits := ok_limits F_l_limits G_parts F_l_parts.kp b_l_parts g_l_parts m_len m_max
  have G_lost : FnOk l.prog w K mg base CX0 3 _ _ ["_law_factor_here", "_law_heap_here", "_law_limit"] spLLost := ok_llost F_l_lost G_parts F_l_parts.kp b_l_parts g_l_parts
  have G_is_sum : FnOk l.prog w K mg base CX0 3 _ _ ["_law_factor_here", "_law_parts_here"] (spIsSum K) := ok_is_sum F_l_is_sum G_parts F_l_parts.kp b_l_parts g_l_parts G_lwhole F_l_whole.kp b_l_whole g_l_whole m_isinstance m_list m_sum m_all
  have G_says : FnOk l.prog w K mg base CX0 1 _ _ ["_law_said", nDue] spSays := ok_says F_l_says m_isinstance m_bool
  have G_due : FnOk l.prog w K mg base CX0 4 _ _ ["_law_factor_here", "_law_heap_here", "_law_limit", "_law_found"] (spDue K CL CW) := ok_due F_l_due OL OW II G_is_sum F_l_is_sum.kp b_l_is_sum g_l_is_sum G_lost F_l_lost.kp b_l_lost g_l_lost m_isinstance m_sum m_min
  have G_right : FnOk l.prog w K mg base CX0 5 _ _ ["_law_factor_here", "_law_heap_here", "_law_limit", "_law_others"] (spRight T) := ok_right F_l_right OL OW II gA kLA kWA MHL GHL b_Lost_shows MHW GHW b_Won_shows ⟨_, _, G_lost, F_l_lost.kp, b_l_lost, g_l_lost⟩ ⟨_, _, G_told, F_told.kp, b_told, g_told⟩ ⟨_, _, G_due, F_l_due.kp, b_l_due, g_l_due⟩ ⟨_, _, G_says, F_l_says.kp, b_l_says, g_l_says⟩ ⟨_, _, G_lwhole, F_l_whole.kp, b_l_whole, g_l_whole⟩ ⟨_, _, G_behind, F_behind.kp, b_behind, g_behind⟩ m_range m_isinstance m_list m_tuple
  have G_tr : FnOk l.prog w K mg base CX0 5 _ _ ["_law_factor_here", "_law_heap_here", "_law_limit", "_law_cell"] spTR := ok_takings_right F_l_takings_right OW II ⟨_, _, G_lost, F_l_lost.kp, b_l_lost, g_l_lost⟩ ⟨_, _, G_told, F_told.kp, b_told, g_told⟩ ⟨_, _, G_behind, F_behind.kp, b_behind, g_behind⟩ m_range m_isinstance m_min
  exact ok_law F_law OL OW II ⟨_, _, G_cell_at, F_l_cell_at.kp, b_l_cell_at, g_l_cell_at⟩ ⟨_, _, G_factor, F_l_factor.kp, b_l_factor, g_l_factor⟩ ⟨_, _, G_heap, F_l_heap.kp, b_l_heap, g_l_heap⟩ ⟨_, _, G_limits, F_l_limits.kp, b_l_limits, g_l_limits⟩ ⟨_, _, G_parts, F_l_parts.kp, b_l_parts, g_l_parts⟩ ⟨_, _, G_right, F_l_right.kp, b_l_right, g_l_right⟩ ⟨_, _, G_tr, F_l_takings_right.kp, b_l_takings_right, g_l_takings_right⟩ ⟨_, _, G_value, F_l_value.kp, b_l_value, g_l_value⟩ ⟨_, _, G_told, F_told.kp, b_told, g_told⟩ m_range m_len m_abs m_isinstance
end TA
open PySem PySem.W PyProof.Rows
set_option maxRecDepth 100000 in
set_option maxHeartbeats 0 in
theorem PySem.Challenge.cw_takeagain_k01_whole_told_holds : PySem.Challenge.rw_takeagain_k01_whole_told.Holds := by
  w_on; o_law; k_head; (case hw => w_witness2)
  k_fill
  refine TA.walk_ofWL (l := PySem.Challenge.rw_takeagain_k01_whole_told) (n := 63) (k := 6) (x := "_law_script") (nm := "is_whole_list") (CX := fun _ => L2.CX0) rfl (by decide) rfl ⟨rfl, by decide, by decide⟩ (by kernel_rfl) (fun w h Y => PySem.W.kIn_of Y) ?F (fun _ _ _ _ _ h => h)
  case F =>
    intro w mg fa h Y KX G hmg own
    refine' TA.all_mk KX G hmg ?a1 ?l1 ?c1 ?k1 ?a2 ?l2 ?c2 ?k2 ?a3 ?l3 ?c3 ?k3 ?a4 ?l4 ?c4 ?k4 ?a5 ?l5 ?c5 ?k5 ?a6 ?l6 ?c6 ?k6 ?a7 ?l7 ?c7 ?k7 ?a8 ?l8 ?c8 ?k8 ?l9 ?c9 ?k9 ?l10 ?c10 ?k10 ?l11 ?c11 ?k11 ?l12 ?c12 ?k12 ?a13 ?l13 ?c13 ?k13 ?a14 ?l14 ?c14 ?k14 ?a15 ?l15 ?c15 ?k15 ?a16 ?l16 ?c16 ?k16 ?a17 ?l17 ?c17 ?k17 ?a18 ?l18 ?c18 ?k18 ?a19 ?l19 ?c19 ?k19 ?a20 ?l20 ?c20 ?k20 ?a21 ?l21 ?c21 ?k21 ?a22 ?l22 ?c22 ?k22 ?a23 ?l23 ?c23 ?k23 ?a24 ?l24 ?c24 ?k24 ?a25 ?l25 ?c25 ?k25 ?a26 ?l26 ?c26 ?k26 ?a27 ?l27 ?c27 ?k27 ?a28 ?l28 ?c28 ?k28 ?a29 ?l29 ?c29 ?k29 ?a30 ?l30 ?c30 ?k30 ?a31 ?l31 ?c31 ?k31 ?a32 ?l32 ?c32 ?k32 ?a33 ?l33 ?c33 ?k33 ?a34 ?l34 ?c34 ?k34 ?a35 ?l35 ?c35 ?k35 ?z_type ?z_int ?z_list ?z_bool ?z_tuple ?z_range ?z_reversed ?z_sum ?z_all ?z_len ?z_isinstance ?z_max ?z_min ?z_abs ?y_GREATEST_FACTOR ?aCL ?mIL ?iIL ?mkL ?nFL ?mSL ?iSL ?pgL ?hdL ?poL ?saL ?kcL ?haL ?hmL ?aCW ?mIW ?iIW ?mkW ?nFW ?mSW ?iSW ?pgW ?hdW ?poW ?saW ?kcW ?haW ?hmW ?aCA ?hn0 ?htk0 ?kLL ?kLW ?kWL ?kWW ?kLA ?kWA ?lc ?e11 ?nT ?hcd own
    (case aCL => k_is)
    (case mIL => k_is)
    (case iIL => k_is)
    (case mkL => k_is)
    (case nFL => k_is)
    (case mSL => k_is)
    (case iSL => k_is)
    (case pgL => k_is)
    (case hdL => k_is)
    (case poL => k_is)
    (case saL => k_is)
    (case kcL => k_is)
    (case haL => k_is)
    (case hmL => k_is)
    (case aCW => k_is)
    (case mIW => k_is)
    (case iIW => k_is)
    (case mkW => k_is)
    (case nFW => k_is)
    (case mSW => k_is)
    (case iSW => k_is)
    (case pgW => k_is)
    (case hdW => k_is)
    (case poW => k_is)
    (case saW => k_is)
    (case kcW => k_is)
    (case haW => k_is)
    (case hmW => k_is)
    (case aCA => k_is)
    (case hn0 => first | k_is | kernel_rfl)
    (case htk0 => first | k_is | kernel_rfl)
    (case kLL => kernel_rfl)
    (case kLW => kernel_rfl)
    (case kWL => kernel_rfl)
    (case kWW => kernel_rfl)
    (case kLA => kernel_rfl)
    (case kWA => kernel_rfl)
    (case a1 => k_is); (case l1 => k_is); (case c1 => k_is); (case k1 => k_is)
    (case a2 => k_is); (case l2 => k_is); (case c2 => k_is); (case k2 => k_is)
    (case a3 => k_is); (case l3 => k_is); (case c3 => k_is); (case k3 => k_is)
    (case a4 => k_is); (case l4 => k_is); (case c4 => k_is); (case k4 => k_is)
    (case a5 => k_is); (case l5 => k_is); (case c5 => k_is); (case k5 => k_is)
    (case a6 => k_is); (case l6 => k_is); (case c6 => k_is); (case k6 => k_is)
    (case a7 => k_is); (case l7 => k_is); (case c7 => k_is); (case k7 => k_is)
    (case a8 => k_is); (case l8 => k_is); (case c8 => k_is); (case k8 => k_is)
    (case l9 => k_is); (case c9 => k_is); (case k9 => k_is)
    (case l10 => k_is); (case c10 => k_is); (case k10 => k_is)
    (case l11 => k_is); (case c11 => k_is); (case k11 => k_is)
    (case l12 => k_is); (case c12 => k_is); (case k12 => k_is)
    (case a13 => k_is); (case l13 => k_is); (case c13 => k_is); (case k13 => k_is)
    (case a14 => k_is); (case l14 => k_is); (case c14 => k_is); (case k14 => k_is)
    (case a15 => k_is); (case l15 => k_is); (case c15 => k_is); (case k15 => k_is)
    (case a16 => k_is); (case l16 => k_is); (case c16 => k_is); (case k16 => k_is)
    (case a17 => k_is); (case l17 => k_is); (case c17 => k_is); (case k17 => k_is)
    (case a18 => k_is); (case l18 => k_is); (case c18 => k_is); (case k18 => k_is)
    (case a19 => k_is); (case l19 => k_is); (case c19 => k_is); (case k19 => k_is)
    (case a20 => k_is); (case l20 => k_is); (case c20 => k_is); (case k20 => k_is)
    (case a21 => k_is); (case l21 => k_is); (case c21 => k_is); (case k21 => k_is)
    (case a22 => k_is); (case l22 => k_is); (case c22 => k_is); (case k22 => k_is)
    (case a23 => k_is); (case l23 => k_is); (case c23 => k_is); (case k23 => k_is)
    (case a24 => k_is); (case l24 => k_is); (case c24 => k_is); (case k24 => k_is)
    (case a25 => k_is); (case l25 => k_is); (case c25 => k_is); (case k25 => k_is)
    (case a26 => k_is); (case l26 => k_is); (case c26 => k_is); (case k26 => k_is)
    (case a27 => k_is); (case l27 => k_is); (case c27 => k_is); (case k27 => k_is)
    (case a28 => k_is); (case l28 => k_is); (case c28 => k_is); (case k28 => k_is)
    (case a29 => k_is); (case l29 => k_is); (case c29 => k_is); (case k29 => k_is)
    (case a30 => k_is); (case l30 => k_is); (case c30 => k_is); (case k30 => k_is)
    (case a31 => k_is); (case l31 => k_is); (case c31 => k_is); (case k31 => k_is)
    (case a32 => k_is); (case l32 => k_is); (case c32 => k_is); (case k32 => k_is)
    (case a33 => k_is); (case l33 => k_is); (case c33 => k_is); (case k33 => k_is)
    (case a34 => k_is); (case l34 => k_is); (case c34 => k_is); (case k34 => k_is)
    (case a35 => k_is); (case l35 => k_is); (case c35 => k_is); (case k35 => k_is)
    (case z_type => k_is)
    (case z_int => k_is)
    (case z_list => k_is)
    (case z_bool => k_is)
    (case z_tuple => k_is)
    (case z_range => k_is)
    (case z_reversed => k_is)
    (case z_sum => k_is)
    (case z_all => k_is)
    (case z_len => k_is)
    (case z_isinstance => k_is)
    (case z_max => k_is)
    (case z_min => k_is)
    (case z_abs => k_is)
    (case y_GREATEST_FACTOR => k_is)
    (case lc => k_is); (case e11 => rfl); (case nT => kernel_rfl); (case hcd => kernel_rfl)
