import PyProof.Rows.All
import Wide.All
import OpenK.AllK
import Wide.FinOn
import HandS.ForMost
import HandS.More
import HandS.IsInst
import HandS.Style
import HandS.Rev
import HandS.Wide
import HandS.EndBits
import HandS.Codes
import HandS.AnyAll
import HandS.EndTab
import KE.IntBitsLaws
import HandS.Flow
import HandS.ForExc
import HandS.HotCalls
import HandS.ExcIs
import HandS.CallLocal
import HandS.Walk
import HandS.EndOwn
import KE.KNestM
import PySem.Challenge.RW_takeagain_k05_refused
set_option maxHeartbeats 4000000
namespace TA
/-! ### the row of steps, reversed -/
def nxt (f : Int) (R : List Int) : Int := ((R.reverse).find? (fun y => decide (R.headD 1 ≤ f * y))).getD 0
def rowR (f : Int) : Nat → List Int
  | 0 => [1]
  | n + 1 => ((rowR f n).headD 1 + nxt f (rowR f n)) :: rowR f n
def st (f : Int) (n : Nat) : Int := (rowR f n).headD 1

theorem rowR_succ (f : Int) (n : Nat) : rowR f (n + 1) = (st f n + nxt f (rowR f n)) :: rowR f n := rfl
theorem st_succ (f : Int) (n : Nat) : st f (n + 1) = st f n + nxt f (rowR f n) := rfl
theorem rowR_len (f : Int) : ∀ n, (rowR f n).length = n + 1
  | 0 => rfl
  | n + 1 => by rw [rowR_succ, List.length_cons, rowR_len f n]
theorem rowR_cons (f : Int) (n : Nat) : ∃ t, rowR f n = st f n :: t := by
  cases n with
  | zero => exact ⟨[], rfl⟩
  | succ n => exact ⟨rowR f n, rfl⟩

theorem nxt_of_split {f : Int} {n : Nat} {a b : List Int} {x : Int} (e : rowR f n = a ++ x :: b) (hb : ∀ y ∈ b, f * y < st f n) (hx : st f n ≤ f * x) :
    nxt f (rowR f n) = x := by
  have hr : (rowR f n).reverse = b.reverse ++ x :: a.reverse := by
    rw [e]; simp
  unfold nxt
  rw [hr, List.find?_append]
  have h1 : b.reverse.find? (fun y => decide ((rowR f n).headD 1 ≤ f * y)) = none := by
    rw [List.find?_eq_none]
    intro y hy
    have := hb y (List.mem_reverse.mp hy)
    have e2 : (rowR f n).headD 1 = st f n := rfl
    rw [e2]
    simp only [decide_eq_true_eq]
    omega
  rw [h1]
  have e2 : (rowR f n).headD 1 = st f n := rfl
  rw [e2, List.find?_cons_of_pos (by simpa using hx)]
  rfl

/-- every row can be split at its next part -/
theorem split_at {f : Int} (hf : 1 ≤ f) (z : Int) (hz : 1 ≤ z) : ∀ (t : List Int), ∃ a x b, z :: t = a ++ x :: b ∧ (∀ y ∈ b, f * y < z) ∧ z ≤ f * x := by
  have hzz : z ≤ f * z := by
    have := Int.mul_le_mul_of_nonneg_right hf (show (0:Int) ≤ z by omega)
    omega
  -- scan by the length of what is dropped
  have key : ∀ (l : List Int), z ≤ f * l.headD z → l ≠ [] → ∃ a x b, l = a ++ x :: b ∧ (∀ y ∈ b, f * y < z) ∧ z ≤ f * x := by
    intro l
    induction l with
    | nil => intro _ h; exact absurd rfl h
    | cons y r ih =>
      intro h _
      by_cases hr : ∀ w ∈ r, f * w < z
      · exact ⟨[], y, r, rfl, hr, h⟩
      · -- drop to the first of r that is great enough
        have : ∃ w ∈ r, z ≤ f * w := by
          apply Classical.byContradiction
          intro hn
          apply hr
          intro w hw
          apply Classical.byContradiction
          intro hq
          exact hn ⟨w, hw, by omega⟩
        obtain ⟨w, hw, hwz⟩ := this
        clear ih hr
        -- induct over r
        have scan : ∀ (r : List Int), (∃ w ∈ r, z ≤ f * w) → ∃ a x b, r = a ++ x :: b ∧ (∀ y ∈ b, f * y < z) ∧ z ≤ f * x := by
          intro r
          induction r with
          | nil => rintro ⟨w, hw, _⟩; cases hw
          | cons v s ih =>
            rintro ⟨w, hw, hwz⟩
            by_cases hs : ∃ w ∈ s, z ≤ f * w
            · obtain ⟨a, x, b, e, h1, h2⟩ := ih hs
              exact ⟨v :: a, x, b, by rw [e]; rfl, h1, h2⟩
            · have hv : w = v := by
                rcases List.mem_cons.mp hw with h | h
                · exact h
                · exact absurd ⟨w, h, hwz⟩ hs
              refine ⟨[], v, s, rfl, fun y hy => ?_, by rw [← hv]; exact hwz⟩
              apply Classical.byContradiction
              intro hq
              exact hs ⟨y, hy, by omega⟩
        obtain ⟨a, x, b, e, h1, h2⟩ := scan r ⟨w, hw, hwz⟩
        exact ⟨y :: a, x, b, by rw [e]; rfl, h1, h2⟩
  intro t
  exact key (z :: t) hzz (by simp)

/-- what holds of every row -/
theorem row_facts {f : Int} (hf : 1 ≤ f) : ∀ n, (∀ y ∈ rowR f n, 1 ≤ y) ∧ (rowR f n).Pairwise (fun a b => b < a)
  | 0 => by
    refine ⟨fun y hy => ?_, ?_⟩
    · simp [rowR] at hy; omega
    · simp [rowR]
  | n + 1 => by
    obtain ⟨h1, h2⟩ := row_facts hf n
    obtain ⟨t, et⟩ := rowR_cons f n
    have hz : 1 ≤ st f n := h1 _ (by rw [et]; exact List.mem_cons_self)
    obtain ⟨a, x, b, e, hb, hx⟩ := split_at hf (st f n) hz t
    rw [← et] at e
    have ex := nxt_of_split e hb hx
    have hx1 : 1 ≤ x := h1 x (by rw [e]; simp)
    rw [rowR_succ, ex]
    refine ⟨fun y hy => ?_, List.pairwise_cons.mpr ⟨fun y hy => ?_, h2⟩⟩
    · rcases List.mem_cons.mp hy with h | h
      · omega
      · exact h1 y h
    · rw [et] at hy h2
      rcases List.mem_cons.mp hy with h | h
      · omega
      · have := (List.pairwise_cons.mp h2).1 y h
        omega
theorem row_split {f : Int} (hf : 1 ≤ f) (n : Nat) : ∃ a x b, rowR f n = a ++ x :: b ∧ (∀ y ∈ b, f * y < st f n) ∧ st f n ≤ f * x ∧ nxt f (rowR f n) = x ∧ 1 ≤ x ∧ x ≤ st f n := by
  obtain ⟨h1, h2⟩ := row_facts hf n
  obtain ⟨t, et⟩ := rowR_cons f n
  have hz : 1 ≤ st f n := h1 _ (by rw [et]; exact List.mem_cons_self)
  obtain ⟨a, x, b, e, hb, hx⟩ := split_at hf (st f n) hz t
  rw [← et] at e
  have hm : x ∈ rowR f n := by rw [e]; simp
  refine ⟨a, x, b, e, hb, hx, nxt_of_split e hb hx, h1 x hm, ?_⟩
  rw [et] at hm h2
  rcases List.mem_cons.mp hm with h | h
  · omega
  · have := (List.pairwise_cons.mp h2).1 x h
    omega
theorem st_pos {f : Int} (hf : 1 ≤ f) (n : Nat) : 1 ≤ st f n := by
  obtain ⟨t, et⟩ := rowR_cons f n
  exact (row_facts hf n).1 _ (by rw [et]; exact List.mem_cons_self)
theorem st_lt {f : Int} (hf : 1 ≤ f) (n : Nat) : st f n < st f (n + 1) := by
  obtain ⟨_, x, _, _, _, _, e, hx, _⟩ := row_split hf n
  rw [st_succ, e]; omega
theorem st_mono {f : Int} (hf : 1 ≤ f) {n : Nat} : ∀ k, st f n ≤ st f (n + k)
  | 0 => Int.le_refl _
  | k + 1 => by
    have := st_mono hf (n := n) k
    have h2 := st_lt hf (n + k)
    rw [← Nat.add_assoc]; omega
theorem st_ge {f : Int} (hf : 1 ≤ f) : ∀ n : Nat, (n : Int) + 1 ≤ st f n
  | 0 => by show (0 : Int) + 1 ≤ 1; decide
  | n + 1 => by
    have := st_ge hf n
    have h2 := st_lt hf n
    omega
theorem row_le {f : Int} (hf : 1 ≤ f) (n : Nat) {y : Int} (h : y ∈ rowR f n) : y ≤ st f n := by
  obtain ⟨t, et⟩ := rowR_cons f n
  have h2 := (row_facts hf n).2
  rw [et] at h h2
  rcases List.mem_cons.mp h with e | e
  · omega
  · have := (List.pairwise_cons.mp h2).1 y e
    omega
/-! growth -/
theorem st_grow {f : Int} (hf : 1 ≤ f) (n : Nat) : ∀ k : Nat, f * st f n + (k : Int) * st f n ≤ f * st f (n + k)
  | 0 => by simp
  | k + 1 => by
    have ih := st_grow hf n k
    obtain ⟨_, x, _, _, _, hx, e, _, _⟩ := row_split hf (n + k)
    have hm := st_mono hf (n := n) k
    rw [← Nat.add_assoc, st_succ, e, Int.mul_add]
    have e1 : ((k + 1 : Nat) : Int) * st f n = (k : Int) * st f n + st f n := by
      rw [Int.natCast_add, Int.add_mul]; simp
    rw [e1]; omega
theorem st_double {f : Int} (hf : 1 ≤ f) (h30 : f ≤ 30) (n : Nat) : 2 * st f n ≤ st f (n + 30) := by
  have h := st_grow hf n 30
  have hz := st_pos hf n
  have h2 : f * st f n ≤ 30 * st f n := Int.mul_le_mul_of_nonneg_right h30 (by omega)
  have h3 : f * (2 * st f n) ≤ f * st f (n + 30) := by
    have e : f * (2 * st f n) = 2 * (f * st f n) := by rw [← Int.mul_assoc, Int.mul_comm f 2, Int.mul_assoc]
    rw [e]
    have : ((30 : Nat) : Int) * st f n = 30 * st f n := by simp
    omega
  exact Int.le_of_mul_le_mul_left h3 (by omega)
theorem st_pow {f : Int} (hf : 1 ≤ f) (h30 : f ≤ 30) : ∀ m : Nat, (2 : Int) ^ m ≤ st f (30 * m)
  | 0 => Int.le_refl 1
  | m + 1 => by
    have ih := st_pow hf h30 m
    have h := st_double hf h30 (30 * m)
    have e : 30 * (m + 1) = 30 * m + 30 := by omega
    rw [e, Int.pow_succ]
    omega
/-- a step below 2 ^ B has a small number -/
theorem st_small {f : Int} (hf : 1 ≤ f) (h30 : f ≤ 30) {n B : Nat} (h : st f n < (2 : Int) ^ B) : n < 30 * B := by
  apply Nat.lt_of_not_le
  intro hn
  have h1 := st_pow hf h30 B
  obtain ⟨k, rfl⟩ : ∃ k, n = 30 * B + k := ⟨n - 30 * B, by omega⟩
  have h2 := st_mono hf (n := 30 * B) k
  omega

/-! ### the greedy sum -/
def gr : List Int → Int → List Int
  | [], _ => []
  | s :: l, h => if s ≤ h then s :: gr l (h - s) else gr l h
theorem gr_nil (h : Int) : gr [] h = [] := rfl
theorem gr_pos {s h : Int} {l : List Int} (c : s ≤ h) : gr (s :: l) h = s :: gr l (h - s) := if_pos c
theorem gr_neg {s h : Int} {l : List Int} (c : ¬ s ≤ h) : gr (s :: l) h = gr l h := if_neg c
def Ch (f : Int) : List Int → Prop
  | a :: b :: r => f * b < a ∧ Ch f (b :: r)
  | _ => True
theorem gr_mem : ∀ (l : List Int) (h : Int), (∀ y ∈ l, 0 ≤ y) → ∀ y ∈ gr l h, y ∈ l ∧ y ≤ h
  | [], _, _, y, hy => by simp [gr] at hy
  | s :: l, h, hp, y, hy => by
    have hs := hp s List.mem_cons_self
    have hl : ∀ y ∈ l, 0 ≤ y := fun y h => hp y (List.mem_cons_of_mem _ h)
    unfold gr at hy
    split at hy
    · rcases List.mem_cons.mp hy with e | e
      · subst e; exact ⟨List.mem_cons_self, by assumption⟩
      · obtain ⟨h1, h2⟩ := gr_mem l _ hl y e
        exact ⟨List.mem_cons_of_mem _ h1, by omega⟩
    · obtain ⟨h1, h2⟩ := gr_mem l _ hl y hy
      exact ⟨List.mem_cons_of_mem _ h1, h2⟩
theorem gr_filter : ∀ (l : List Int) (h N : Int), h ≤ N → (∀ y ∈ l, 0 ≤ y) → gr (l.filter (fun y => decide (y ≤ N))) h = gr l h
  | [], _, _, _, _ => rfl
  | s :: l, h, N, hN, hp => by
    have hs := hp s List.mem_cons_self
    have hl : ∀ y ∈ l, 0 ≤ y := fun y h => hp y (List.mem_cons_of_mem _ h)
    by_cases c : s ≤ N
    · rw [List.filter_cons_of_pos (by simpa using c)]
      unfold gr
      rw [gr_filter l h N hN hl, gr_filter l (h - s) N (by omega) hl]
    · rw [List.filter_cons_of_neg (by simpa using c), gr_filter l h N hN hl]
      conv => rhs; unfold gr
      rw [if_neg (by omega)]
theorem gr_main {f : Int} (hf : 1 ≤ f) : ∀ (n : Nat) (h : Int), 0 ≤ h → h < st f n → (gr (rowR f n) h).sum = h ∧ Ch f (gr (rowR f n) h)
  | 0, h, h0, h1 => by
    have : st f 0 = 1 := rfl
    have e : h = 0 := by omega
    subst e
    exact ⟨rfl, trivial⟩
  | n + 1, h, h0, h1 => by
    rw [rowR_succ, ← st_succ]
    unfold gr
    rw [if_neg (by omega)]
    by_cases c : h < st f n
    · exact gr_main hf n h h0 c
    · -- the step of n is taken
      obtain ⟨a, x, b, e, hb, hx, en, hx1, hx2⟩ := row_split hf n
      rw [st_succ, en] at h1
      have hl : h - st f n < st f n := by omega
      obtain ⟨i1, i2⟩ := gr_main hf n (h - st f n) (by omega) hl
      obtain ⟨t, et⟩ := rowR_cons f n
      have hgt : gr (rowR f n) (h - st f n) = gr t (h - st f n) := by
        rw [et]; unfold gr; rw [if_neg (by omega)]; cases t <;> rfl
      have hg : gr (rowR f n) h = st f n :: gr t (h - st f n) := by
        rw [et]; unfold gr; rw [if_pos (by omega)]; cases t <;> rfl
      rw [hg, ← hgt]
      refine ⟨by rw [List.sum_cons, i1]; omega, ?_⟩
      -- the chain
      have hmem := gr_mem (rowR f n) (h - st f n) (fun y hy => by have := (row_facts hf n).1 y hy; omega)
      revert i2 hmem
      generalize gr (rowR f n) (h - st f n) = G
      intro i2 hmem
      cases G with
      | nil => trivial
      | cons y r =>
        refine ⟨?_, i2⟩
        obtain ⟨m1, m2⟩ := hmem y List.mem_cons_self
        have hyx : y < x := by omega
        have hp := (row_facts hf n).2
        rw [e] at m1 hp
        rcases List.mem_append.mp m1 with q | q
        · have := (List.pairwise_append.mp hp).2.2 y q x List.mem_cons_self
          omega
        · rcases List.mem_cons.mp q with q | q
          · omega
          · exact hb y q
/-- a longer row tells the same -/
theorem gr_longer {f : Int} (hf : 1 ≤ f) {n : Nat} {h : Int} (h1 : h < st f n) : ∀ k, gr (rowR f (n + k)) h = gr (rowR f n) h
  | 0 => rfl
  | k + 1 => by
    have ih := gr_longer hf h1 k
    have h2 := st_mono hf (n := n) (k + 1)
    rw [← Nat.add_assoc] at h2 ⊢
    rw [rowR_succ, ← st_succ]
    conv => lhs; unfold gr
    rw [if_neg (by omega), ih]
theorem gr_same {f : Int} (hf : 1 ≤ f) {n m : Nat} {h : Int} (h1 : h < st f n) (h2 : h < st f m) : gr (rowR f n) h = gr (rowR f m) h := by
  by_cases c : n ≤ m
  · obtain ⟨k, rfl⟩ : ∃ k, m = n + k := ⟨m - n, by omega⟩
    exact (gr_longer hf h1 k).symm
  · obtain ⟨k, rfl⟩ : ∃ k, n = m + k := ⟨n - m, by omega⟩
    exact gr_longer hf h2 k
/-- the sum by the factor that comes to h -/
def parts (f h : Int) : List Int := gr (rowR f h.toNat) h
theorem parts_of {f : Int} (hf : 1 ≤ f) {n : Nat} {h : Int} (h0 : 0 ≤ h) (h1 : h < st f n) : gr (rowR f n) h = parts f h := by
  refine gr_same hf h1 ?_
  have := st_ge hf h.toNat
  omega
theorem parts_ok {f : Int} (hf : 1 ≤ f) {h : Int} (h0 : 0 ≤ h) : (parts f h).sum = h ∧ Ch f (parts f h) := by
  have := st_ge hf h.toNat
  exact gr_main hf h.toNat h h0 (by omega)
theorem parts_mem {f : Int} (hf : 1 ≤ f) {h : Int} : ∀ y ∈ parts f h, 1 ≤ y ∧ y ≤ h := fun y hy => by
  obtain ⟨h1, h2⟩ := gr_mem (rowR f h.toNat) h (fun y hy => by have := (row_facts hf _).1 y hy; omega) y hy
  exact ⟨(row_facts hf _).1 y h1, h2⟩
theorem ch_get {f : Int} : ∀ (l : List Int) (i : Nat) (a b : Int), Ch f l → l[i]? = some a → l[i + 1]? = some b → f * b < a
  | [], _, _, _, _, h, _ => by simp at h
  | [_], 0, _, _, _, _, h => by simp at h
  | [_], i + 1, _, _, _, h, _ => by simp at h
  | x :: y :: r, 0, a, b, hc, h1, h2 => by
    have e1 : x = a := Option.some.inj h1
    have e2 : y = b := Option.some.inj h2
    rw [← e1, ← e2]; exact hc.1
  | x :: y :: r, i + 1, a, b, hc, h1, h2 => ch_get (y :: r) i a b hc.2 h1 h2
end TA
set_option maxHeartbeats 4000000
namespace TA
/-- a place of the row from which on the next part stands -/
def Place (f : Int) (n : Nat) (p : Int) : Prop := ∃ a x b, rowR f n = a ++ x :: b ∧ p = (b.length : Int) ∧ ∀ y ∈ b, f * y < st f n
def row (f : Int) (n : Nat) : List Int := (rowR f n).reverse
theorem row_length (f : Int) (n : Nat) : (row f n).length = n + 1 := by unfold row; rw [List.length_reverse, rowR_len]
theorem row_succ (f : Int) (n : Nat) : row f (n + 1) = row f n ++ [st f (n + 1)] := by
  unfold row; rw [rowR_succ, ← st_succ, List.reverse_cons]
theorem row_init (f : Int) : row f 0 = [1] := rfl
theorem row_last (f : Int) (n : Nat) : ∃ l, row f n = l ++ [st f n] := by
  obtain ⟨t, e⟩ := rowR_cons f n
  exact ⟨t.reverse, by unfold row; rw [e, List.reverse_cons]⟩
theorem place_zero (f : Int) : Place f 0 0 := ⟨[], 1, [], rfl, rfl, fun y hy => by cases hy⟩
theorem place_at {f : Int} (hf : 1 ≤ f) {n : Nat} {p : Int} (h : Place f n p) :
    ∃ x, (row f n)[p.toNat]? = some x ∧ 0 ≤ p ∧ p ≤ n ∧ (f * x < st f n → Place f n (p + 1) ∧ p < n) ∧ (¬ f * x < st f n → nxt f (rowR f n) = x ∧ Place f (n + 1) p) := by
  obtain ⟨a, x, b, e, rfl, hb⟩ := h
  have hlen := rowR_len f n
  rw [e] at hlen
  simp only [List.length_append, List.length_cons] at hlen
  refine ⟨x, ?_, by omega, by omega, fun hx => ?_, fun hx => ?_⟩
  · unfold row
    rw [e]
    simp
  · -- a is not empty
    have hne : a ≠ [] := by
      intro ha
      subst ha
      obtain ⟨t, et⟩ := rowR_cons f n
      rw [et] at e
      have exz : st f n = x := (List.cons.inj e).1
      have hz := st_pos hf n
      have := Int.mul_le_mul_of_nonneg_right hf (show (0 : Int) ≤ x by omega)
      omega
    obtain ⟨a', x', rfl⟩ : ∃ a' x', a = a' ++ [x'] := ⟨a.dropLast, a.getLast hne, (List.dropLast_concat_getLast hne).symm⟩
    simp only [List.length_append, List.length_cons, List.length_nil] at hlen
    refine ⟨⟨a', x', x :: b, by rw [e]; simp, by simp, fun y hy => ?_⟩, by omega⟩
    rcases List.mem_cons.mp hy with q | q
    · rw [q]; exact hx
    · exact hb y q
  · have en := nxt_of_split e hb (by omega)
    refine ⟨en, ⟨(st f (n + 1)) :: a, x, b, by rw [rowR_succ, ← st_succ, e]; rfl, rfl, fun y hy => ?_⟩⟩
    have := hb y hy
    have := st_lt hf n
    omega
end TA
set_option maxHeartbeats 4000000
namespace TA
theorem mem_row {f : Int} : ∀ {n : Nat} {y : Int}, y ∈ rowR f n → ∃ j, j ≤ n ∧ y = st f j
  | 0, y, h => by
    have e : y = 1 := by simpa [rowR] using h
    exact ⟨0, Nat.le_refl 0, e⟩
  | n + 1, y, h => by
    rw [rowR_succ, ← st_succ] at h
    rcases List.mem_cons.mp h with e | e
    · exact ⟨n + 1, Nat.le_refl _, e⟩
    · obtain ⟨j, h1, h2⟩ := mem_row e
      exact ⟨j, by omega, h2⟩
theorem st_mem (f : Int) {j : Nat} : ∀ k, st f j ∈ rowR f (j + k)
  | 0 => by
    obtain ⟨t, e⟩ := rowR_cons f j
    show st f j ∈ rowR f j
    rw [e]
    exact List.mem_cons_self
  | k + 1 => by rw [← Nat.add_assoc, rowR_succ]; exact List.mem_cons_of_mem _ (st_mem f k)
theorem st_mono2 {f : Int} (hf : 1 ≤ f) {i j : Nat} (h : i ≤ j) : st f i ≤ st f j := by
  obtain ⟨k, rfl⟩ : ∃ k, j = i + k := ⟨j - i, by omega⟩
  exact st_mono hf k
theorem st_mono3 {f : Int} (hf : 1 ≤ f) {i j : Nat} (h : i < j) : st f i < st f j := by
  have h1 := st_lt hf i
  have h2 := st_mono2 hf (show i + 1 ≤ j from h)
  omega
theorem st_lt_of {f : Int} (hf : 1 ≤ f) {i j : Nat} (h : st f i < st f j) : i < j := by
  apply Nat.lt_of_not_le
  intro c
  have := st_mono2 hf c
  omega
/-- the next step: the row's last and the least that, times the factor, is no less -/
theorem nxt_least {f : Int} (hf : 1 ≤ f) (i : Nat) : ∃ j, j ≤ i ∧ st f (i + 1) = st f i + st f j ∧ st f i ≤ f * st f j ∧ ∀ m, m < j → f * st f m < st f i := by
  obtain ⟨a, x, b, e, hb, hx, en, hx1, hx2⟩ := row_split hf i
  have hm : x ∈ rowR f i := by rw [e]; simp
  obtain ⟨j, hj, ej⟩ := mem_row hm
  subst ej
  refine ⟨j, hj, by rw [st_succ, en], hx, fun m hmj => ?_⟩
  have hlt := st_mono3 hf hmj
  obtain ⟨k, ek⟩ : ∃ k, i = m + k := ⟨i - m, by omega⟩
  have hmem : st f m ∈ rowR f i := by rw [ek]; exact st_mem f k
  have hp := (row_facts hf i).2
  rw [e] at hmem hp
  rcases List.mem_append.mp hmem with q | q
  · have := (List.pairwise_append.mp hp).2.2 _ q _ List.mem_cons_self
    omega
  · rcases List.mem_cons.mp q with q | q
    · omega
    · exact hb _ q
theorem top_step {f : Int} (hf : 1 ≤ f) {h : Int} (h1 : 1 ≤ h) : ∃ i, st f i ≤ h ∧ h < st f (i + 1) := by
  have key : ∀ n : Nat, h < st f n → ∃ i, st f i ≤ h ∧ h < st f (i + 1) := by
    intro n
    induction n with
    | zero => intro q; have : st f 0 = 1 := rfl; omega
    | succ n ih =>
      intro q
      by_cases c : h < st f n
      · exact ih c
      · exact ⟨n, by omega, q⟩
  have := st_ge hf h.toNat
  exact key h.toNat (by omega)
theorem sum_one {S : List Int} {g : Int → Int} {a v : Int} : S.Nodup → a ∈ S → g a = v → (∀ b ∈ S, b ≠ a → g b = 0) → (S.map g).sum = v := by
  induction S with
  | nil => intro _ h; cases h
  | cons b r ih =>
    intro hn ha hg h0
    rw [List.map_cons, List.sum_cons]
    obtain ⟨n1, n2⟩ := List.nodup_cons.mp hn
    rcases List.mem_cons.mp ha with e | e
    · subst e
      have hz : ∀ l : List Int, (∀ b ∈ l, g b = 0) → (l.map g).sum = 0 := by
        intro l
        induction l with
        | nil => intro _; rfl
        | cons c r ih2 =>
          intro hc
          rw [List.map_cons, List.sum_cons, hc c List.mem_cons_self, ih2 fun b hb => hc b (List.mem_cons_of_mem _ hb)]
          rfl
      rw [hg, hz r fun b hb => h0 b (List.mem_cons_of_mem _ hb) (fun q => n1 (q ▸ hb))]
      omega
    · have hne : b ≠ a := fun q => n1 (q ▸ e)
      rw [h0 b List.mem_cons_self hne, ih n2 e hg fun c hc => h0 c (List.mem_cons_of_mem _ hc)]
      omega
def ways (f : Int) (steps : List Int) : Nat → Int → Int → Int
  | 0, _, _ => 1
  | n + 1, number, most => if number = 0 then 1 else (steps.map fun s => if s ≤ number ∧ f * s < most then ways f steps n (number - s) s else 0).sum
/-- the steps that are no more than N, of a row that is long enough -/
def below (f : Int) (n : Nat) (N : Int) : List Int := (row f n).filter (fun y => decide (y ≤ N))
theorem ways_zero (f : Int) (S : List Int) (m : Nat) (most : Int) : ways f S m 0 most = 1 := by
  cases m with
  | zero => rfl
  | succ m => unfold ways; rw [if_pos rfl]
/-- just one sum comes to a number -/
theorem ways_top {f : Int} (hf : 1 ≤ f) {n : Nat} {N : Int} (hN : N < st f n) : ∀ (m : Nat) (num most : Int) (i : Nat), 0 < num → num ≤ m → num ≤ N → st f i ≤ num → num < st f (i + 1) →
    ways f (below f n N) m num most = if f * st f i < most then 1 else 0
  | 0, num, most, i, h0, h1, _, _, _ => by omega
  | m + 1, num, most, i, h0, h1, h2, h3, h4 => by
    unfold ways
    rw [if_neg (by omega)]
    have hin : i < n := st_lt_of hf (by omega)
    have hmem : st f i ∈ below f n N := by
      unfold below row
      refine List.mem_filter.mpr ⟨List.mem_reverse.mpr ?_, decide_eq_true (by omega)⟩
      obtain ⟨k, ek⟩ : ∃ k, n = i + k := ⟨n - i, by omega⟩
      rw [ek]
      exact st_mem f k
    have hnd : (below f n N).Nodup := by
      unfold below row
      refine List.Nodup.sublist List.filter_sublist ?_
      exact List.pairwise_reverse.mpr ((row_facts hf n).2.imp (fun {a b} h e => by omega))
    refine sum_one hnd hmem ?_ ?_
    · by_cases c : f * st f i < most
      · rw [if_pos ⟨h3, c⟩, if_pos c]
        obtain ⟨j, hj, ej, hx, hl⟩ := nxt_least hf i
        rcases Int.lt_or_eq_of_le (show 0 ≤ num - st f i by omega) with q | q
        · obtain ⟨i', t1, t2⟩ := top_step hf (show 1 ≤ num - st f i by omega)
          have hp := st_pos hf i
          rw [ways_top hf hN m (num - st f i) (st f i) i' q (by omega) (by omega) t1 t2]
          have : i' < j := st_lt_of hf (by omega)
          rw [if_pos (hl i' this)]
        · rw [← q]
          exact ways_zero _ _ _ _
      · rw [if_neg (fun z => c z.2), if_neg c]
    · intro b hb hne
      have hb' : b ∈ rowR f n := by
        unfold below row at hb
        exact List.mem_reverse.mp (List.mem_filter.mp hb).1
      obtain ⟨k, hk, rfl⟩ := mem_row hb'
      by_cases c : st f k ≤ num ∧ f * st f k < most
      · rw [if_pos c]
        have hki : k < i := by
          have c1 := c.1
          have : k < i + 1 := st_lt_of hf (by omega)
          have : k ≠ i := fun e => hne (by rw [e])
          omega
        obtain ⟨j, hj, ej, hx, hl⟩ := nxt_least hf k
        have hle := st_mono2 hf (show k + 1 ≤ i from hki)
        have hpj := st_pos hf j
        have hpk := st_pos hf k
        obtain ⟨i', t1, t2⟩ := top_step hf (show 1 ≤ num - st f k by omega)
        rw [ways_top hf hN m (num - st f k) (st f k) i' (by omega) (by omega) (by omega) t1 t2]
        have hji : j ≤ i' := by
          have : j < i' + 1 := st_lt_of hf (by omega)
          omega
        have hm := Int.mul_le_mul_of_nonneg_left (st_mono2 hf hji) (show 0 ≤ f by omega)
        rw [if_neg (by omega)]
      · rw [if_neg c]
theorem ways_all {f : Int} (hf : 1 ≤ f) {n : Nat} (hN : (40 : Int) < st f n) {k : Int} (k0 : 1 ≤ k) (k1 : k ≤ 40) : ways f (below f n 40) 40 k (f * 41 + 1) = 1 := by
  obtain ⟨i, t1, t2⟩ := top_step hf k0
  rw [ways_top hf hN 40 k (f * 41 + 1) i (by omega) (by omega) k1 t1 t2]
  have hm := Int.mul_le_mul_of_nonneg_left (show st f i ≤ 41 by omega) (show 0 ≤ f by omega)
  rw [if_pos (by omega)]
theorem st_one : ∀ n, st 1 n = 2 ^ n
  | 0 => rfl
  | n + 1 => by
    obtain ⟨_, x, _, _, _, hx, e, _, hle⟩ := row_split (f := 1) (Int.le_refl 1) n
    have ih := st_one n
    rw [st_succ, e, Int.pow_succ]
    omega
theorem c1 : [st 2 0, st 2 1, st 2 2, st 2 3, st 2 4, st 2 5] = [1, 2, 3, 5, 8, 13] := by decide +kernel
theorem c2 : [st 3 0, st 3 1, st 3 2, st 3 3, st 3 4, st 3 5, st 3 6] = [1, 2, 3, 4, 6, 8, 11] := by decide +kernel
theorem c3 : parts 2 100 = [89, 8, 3] := by
  rw [← parts_of (f := 2) (by decide) (n := 10) (by decide) (by decide +kernel)]
  decide +kernel
theorem c5 : parts 1 13 = [8, 4, 1] := by
  rw [← parts_of (f := 1) (by decide) (n := 4) (by decide) (by decide +kernel)]
  decide +kernel
end TA
set_option maxHeartbeats 4000000
namespace TA
theorem parts_zero (f : Int) : parts f 0 = [] := rfl
/-- the greatest step that fits is the first part -/
theorem parts_cons {f : Int} (hf : 1 ≤ f) {i : Nat} {h : Int} (h1 : st f i ≤ h) (h2 : h < st f (i + 1)) : parts f h = st f i :: parts f (h - st f i) := by
  have hz := st_pos hf i
  rw [← parts_of hf (n := i + 1) (by omega) h2, rowR_succ, ← st_succ, gr_neg (by omega)]
  obtain ⟨a, x, b, e, hb, hx, en, hx1, hx2⟩ := row_split hf i
  rw [st_succ, en] at h2
  obtain ⟨t, et⟩ := rowR_cons f i
  have e1 : parts f (h - st f i) = gr t (h - st f i) := by
    rw [← parts_of hf (n := i) (by omega) (show h - st f i < st f i by omega), et, gr_neg (by omega)]
  rw [e1, et, gr_pos h1]
theorem parts_head {f : Int} (hf : 1 ≤ f) {h : Int} (h1 : 1 ≤ h) : ∃ i, st f i ≤ h ∧ h < st f (i + 1) ∧ parts f h = st f i :: parts f (h - st f i) := by
  obtain ⟨i, a, b⟩ := top_step hf h1
  exact ⟨i, a, b, parts_cons hf a b⟩
theorem parts_pos {f : Int} (hf : 1 ≤ f) {h : Int} (h0 : 0 ≤ h) (ne : parts f h ≠ []) : 1 ≤ h := by
  have : h ≠ 0 := fun e => ne (by rw [e]; rfl)
  omega
/-- the last part away, a lesser number in its place -/
theorem parts_swap {f : Int} (hf : 1 ≤ f) : ∀ (m : List Int) {h s r : Int}, 0 ≤ h → parts f h = m ++ [s] → 0 ≤ r → r < s → parts f (h - s + r) = m ++ parts f r
  | [], h, s, r, h0, e, r0, rs => by
    have hsum := (parts_ok hf h0).1
    rw [e] at hsum
    have : s = h := by simpa using hsum
    rw [this]
    have e2 : h - h + r = r := by omega
    rw [e2]
    rfl
  | x :: m, h, s, r, h0, e, r0, rs => by
    have h1 := parts_pos hf h0 (by rw [e]; simp)
    obtain ⟨i, a, b, c⟩ := parts_head hf h1
    rw [c] at e
    have ex : st f i = x := (List.cons.inj e).1
    have er : parts f (h - st f i) = m ++ [s] := (List.cons.inj e).2
    have hle : s ≤ h - st f i := (parts_mem hf s (by rw [er]; simp)).2
    have ih := parts_swap hf m (show 0 ≤ h - st f i by omega) er r0 rs
    rw [parts_cons hf (i := i) (show st f i ≤ h - s + r by omega) (by omega), ex]
    have e3 : h - s + r - x = h - st f i - s + r := by omega
    rw [e3, ih]
    rfl
theorem parts_but {f : Int} (hf : 1 ≤ f) {m : List Int} {h s : Int} (h0 : 0 ≤ h) (e : parts f h = m ++ [s]) : parts f (h - s) = m := by
  have hs := (parts_mem hf s (by rw [e]; simp)).1
  have := parts_swap hf m h0 e (Int.le_refl 0) (by omega)
  rw [Int.add_zero, parts_zero, List.append_nil] at this
  exact this
/-- the part ahead of the last one -/
theorem ch_last {f : Int} : ∀ (m : List Int) (y s : Int), Ch f (m ++ [y, s]) → f * s < y
  | [], _, _, h => h.1
  | [_], y, s, h => ch_last [] y s h.2
  | _ :: b :: m, y, s, h => ch_last (b :: m) y s h.2
/-- what is left of a step has a last part that is no more than f times what is away -/
theorem last_le {f : Int} (hf : 1 ≤ f) : ∀ (n i : Nat) (t : Int), i ≤ n → 0 < t → t < st f i → ∃ m z, parts f (st f i - t) = m ++ [z] ∧ z ≤ f * t
  | _, 0, t, _, h0, h1 => by
    have : st f 0 = 1 := rfl
    omega
  | 0, i + 1, _, hi, _, _ => by omega
  | n + 1, i + 1, t, hi, h0, h1 => by
    obtain ⟨k, hk, ek, hx, hl⟩ := nxt_least hf i
    have hzi := st_pos hf i
    have hzk := st_pos hf k
    rcases Int.lt_trichotomy t (st f k) with c | c | c
    · obtain ⟨m, z, e, hz⟩ := last_le hf n k t (by omega) h0 c
      refine ⟨st f i :: m, z, ?_, hz⟩
      rw [parts_cons hf (i := i) (show st f i ≤ st f (i + 1) - t by omega) (by omega)]
      have e2 : st f (i + 1) - t - st f i = st f k - t := by omega
      rw [e2, e]
      rfl
    · refine ⟨[], st f i, ?_, by rw [c]; exact hx⟩
      rw [parts_cons hf (i := i) (show st f i ≤ st f (i + 1) - t by omega) (by omega)]
      have e2 : st f (i + 1) - t - st f i = 0 := by omega
      rw [e2]
      rfl
    · obtain ⟨m, z, e, hz⟩ := last_le hf n i (t - st f k) (by omega) (by omega) (by omega)
      refine ⟨m, z, ?_, ?_⟩
      · have e2 : st f (i + 1) - t = st f i - (t - st f k) := by omega
        rw [e2, e]
      · have := Int.mul_le_mul_of_nonneg_left (show t - st f k ≤ t by omega) (show 0 ≤ f by omega)
        omega
theorem parts_step {f : Int} (hf : 1 ≤ f) : ∀ (m : List Int) {h s : Int}, 0 ≤ h → parts f h = m ++ [s] → ∃ i, s = st f i
  | [], h, s, h0, e => by
    obtain ⟨i, a, b, c⟩ := parts_head hf (parts_pos hf h0 (by rw [e]; simp))
    rw [c] at e
    exact ⟨i, (List.cons.inj e).1.symm⟩
  | x :: m, h, s, h0, e => by
    obtain ⟨i, a, b, c⟩ := parts_head hf (parts_pos hf h0 (by rw [e]; simp))
    rw [c] at e
    exact parts_step hf m (show 0 ≤ h - st f i by omega) (List.cons.inj e).2
/-- less than the last part away: the last part then is no more than f times that -/
theorem lost_none {f : Int} (hf : 1 ≤ f) {m : List Int} {h s t : Int} (h0 : 0 ≤ h) (e : parts f h = m ++ [s]) (t0 : 0 < t) (t1 : t < s) : ∃ m' z, parts f (h - t) = m' ++ [z] ∧ z ≤ f * t := by
  obtain ⟨i, rfl⟩ := parts_step hf m h0 e
  obtain ⟨m1, z, e1, hz⟩ := last_le hf i i t (Nat.le_refl i) t0 t1
  have := parts_swap hf m h0 e (show 0 ≤ st f i - t by omega) (by omega)
  refine ⟨m ++ m1, z, ?_, hz⟩
  have e2 : h - st f i + (st f i - t) = h - t := by omega
  rw [e2] at this
  rw [this, e1, List.append_assoc]
end TA
set_option Elab.async false
set_option linter.all false
set_option maxRecDepth 100000
namespace TA
open PySem L2
def top (i : Nat) : Stmt := PySem.Challenge.pw_takeagain_k05_refused.main.body.getD i (.Pass ⟨0, 0, 0, 0⟩)
abbrev sIsWhole : Stmt := top 10
abbrev sIsWholeList : Stmt := top 11
abbrev sIsTaking : Stmt := top 12
abbrev sCkFactor : Stmt := top 13
abbrev sCkHeap : Stmt := top 14
abbrev sStepBy : Stmt := top 17
abbrev sSumOf : Stmt := top 18
abbrev sWhole : Stmt := top 19
abbrev sAddStep : Stmt := top 20
abbrev sRowPast : Stmt := top 21
abbrev sCkNumber : Stmt := top 22
abbrev sCkParts : Stmt := top 23
abbrev cAnswer : Stmt := top 25
abbrev cLost : Stmt := top 26
abbrev sLostInit : Stmt := inClass (top 26) 0
abbrev sLostShows : Stmt := inClass (top 26) 1
abbrev cWon : Stmt := top 27
abbrev sWonInit : Stmt := inClass (top 27) 0
abbrev sWonShows : Stmt := inClass (top 27) 1
abbrev sIsLost : Stmt := top 28
abbrev sLeftBy : Stmt := top 29
abbrev sTold : Stmt := top 31
abbrev sBehind : Stmt := top 32
abbrev sCkTurn : Stmt := top 33
abbrev sCkLimit : Stmt := top 34
abbrev sCkTaking : Stmt := top 35
abbrev sCellAt : Stmt := top 37
abbrev sDraw : Stmt := top 38
abbrev sValue : Stmt := top 39
abbrev sFactor : Stmt := top 40
abbrev sLawKinds : Stmt := top 41
abbrev sLawWithFactor : Stmt := top 42
abbrev sLawWithHeap : Stmt := top 43
abbrev sLawWithLimit : Stmt := top 44
abbrev sLawWithNumber : Stmt := top 45
abbrev sLawWithSum : Stmt := top 46
abbrev sLawWithTaking : Stmt := top 47
abbrev sLawTold : Stmt := top 48
abbrev sLawAll : Stmt := top 49
abbrev sLaw : Stmt := top 50
end TA
set_option Elab.async false
set_option linter.all false
set_option maxRecDepth 100000
set_option maxHeartbeats 4000000
namespace TA
open PySem PySem.Spec PyProof.Rows L2
section
variable {P : Program} {w : World} {K : PySem.W.Frag} {mg : Str → Option Value} {base : Heap}
/-! ### is_whole -/
def spIsWhole (K : PySem.W.Frag) : Sp := fun vs H Q _ => ∃ v T m, vs = [v, .int m] ∧ TyB K H v T ∧ ((∃ n, v = .int n ∧ Q (.bl (decide (m ≤ n))) H) ∨ (T ≠ "int" ∧ Q (.bl false) H))
theorem scIsWhole : FnScope ["value", "least"] ["value", "least"] (defScope sIsWhole) := ⟨rfl, rfl, rfl, by decide +kernel, rfl, by decide +kernel, by decide +kernel⟩
theorem ok_is_whole {f : Addr} {fd : FuncData} (F : Fun K "is_whole" "is_whole" sIsWhole f fd) (mt : mg "type" = none) (mi : mg "int" = none) :
    FnOk P w K mg base CX0 1 f fd ["value", "least"] (spIsWhole K) := by
  refine F.ok scIsWhole (fun vs H Q E h => ?_) (fun cdv A outer s H vs Q E hr h => ?_)
  · obtain ⟨v, T, m, rfl, _⟩ := h
    rfl
  · obtain ⟨v, T, m, rfl, hT, h⟩ := h
    refine ⟨_, pss_one (ps_ret (pe_and (pe_cmpR op_isTy (pe_callTy call_type1 (by rfl) mt (by decide +kernel) (pa_cons (pv 0) pa_nil)) (pe_bltn (v := .ty "int") (by rfl) mi (by decide +kernel) rfl) (nomark _))
      (pe_one (pe_cmpR op_ge (pv 0) (pv 1) (nomark _))))), ?_⟩
    refine ⟨v, rfl, v, T, rfl, hT, T, "int", rfl, rfl, _, rfl, ?_⟩
    rcases h with ⟨n, rfl, q⟩ | ⟨ne, q⟩
    · cases hT
      refine iteT ⟨_, rfl, _, rfl, _, _, rfl, rfl, ?_⟩
      exact q
    · rw [decide_eq_false ne]
      exact iteF q
end
end TA
set_option Elab.async false
set_option linter.all false
set_option maxRecDepth 100000
set_option maxHeartbeats 4000000
namespace TA
open PySem PySem.Spec PyProof.Rows L2
theorem item_of {ns : List Int} {i : Nat} {y : V} (h : (ns.map V.int)[i]? = some y) : ∃ u, ns[i]? = some u ∧ y = V.int u := by
  rw [List.getElem?_map] at h
  cases e : ns[i]? with
  | none =>
    rw [e] at h
    cases h
  | some u =>
    rw [e] at h
    exact ⟨u, rfl, (Option.some.inj h).symm⟩
section
variable {P : Program} {w : World} {K : PySem.W.Frag} {mg : Str → Option Value} {base : Heap}
/-! ### the checks, of what is such -/
def spCkFactor : Sp := fun vs H Q _ => ∃ n, vs = [.int n] ∧ 1 ≤ n ∧ n ≤ 30 ∧ Q .non H
theorem scCkFactor : FnScope ["factor"] ["factor"] (defScope sCkFactor) := ⟨rfl, rfl, rfl, by decide +kernel, rfl, by decide +kernel, by decide +kernel⟩
theorem ok_ck_factor {f fW : Addr} {fd fdW : FuncData} {t : Tok} (F : Fun K "check_factor" "check_factor" sCkFactor f fd) (FW : Fun K "is_whole" "is_whole" sIsWhole fW fdW) (bW : Binds K fdW ["value", "least"] []) (gW : mg "is_whole" = some (.ref fW))
    (gG : mg "GREATEST_FACTOR" = some (.int 30 t)) (mt : mg "type" = none) (mi : mg "int" = none) :
    FnOk P w K mg base CX0 2 f fd ["factor"] spCkFactor := by
  have GW : FnOk P w K mg base CX0 1 fW fdW ["value", "least"] (spIsWhole K) := ok_is_whole FW mt mi
  refine F.ok scCkFactor (fun vs H Q E h => ?_) (fun cdv A outer s H vs Q E hr h => ?_)
  · obtain ⟨n, rfl, _⟩ := h
    rfl
  · obtain ⟨n, rfl, h1, h2, q⟩ := h
    refine ⟨_, pss_one (ps_if (PW.pt (pw_or (pt_not (pt_val (pe_call GW hr (by rfl) gW FW.kp bW .nil pass0 (pa_cons (pv 0) (pa_cons pe_int pa_nil)))))
      (pw_or1 (pt_cmpR op_gt (pv 0) (pe_glob (v := .int 30) (by rfl) gG ⟨_, rfl⟩) (nomark _))))) pss_never pss_nil), ?_⟩
    refine ⟨_, rfl, _, _, _, rfl, .int n, .inl ⟨n, rfl, _, rfl, ?_⟩⟩
    rw [decide_eq_true h1]
    refine iteF ⟨_, rfl, _, _, rfl, rfl, _, rfl, ?_⟩
    rw [decide_eq_false (by omega)]
    exact iteF q
def spCkHeap : Sp := fun vs H Q _ => ∃ n, vs = [.int n] ∧ 0 ≤ n ∧ Q .non H
theorem scCkHeap : FnScope ["heap"] ["heap"] (defScope sCkHeap) := ⟨rfl, rfl, rfl, by decide +kernel, rfl, by decide +kernel, by decide +kernel⟩
theorem ok_ck_heap {f fW : Addr} {fd fdW : FuncData} (F : Fun K "check_heap" "check_heap" sCkHeap f fd) (FW : Fun K "is_whole" "is_whole" sIsWhole fW fdW) (bW : Binds K fdW ["value", "least"] []) (gW : mg "is_whole" = some (.ref fW))
    (mt : mg "type" = none) (mi : mg "int" = none) :
    FnOk P w K mg base CX0 2 f fd ["heap"] spCkHeap := by
  have GW : FnOk P w K mg base CX0 1 fW fdW ["value", "least"] (spIsWhole K) := ok_is_whole FW mt mi
  refine F.ok scCkHeap (fun vs H Q E h => ?_) (fun cdv A outer s H vs Q E hr h => ?_)
  · obtain ⟨n, rfl, _⟩ := h
    rfl
  · obtain ⟨n, rfl, h1, q⟩ := h
    refine ⟨_, pss_one (ps_if (pt_not (pt_val (pe_call GW hr (by rfl) gW FW.kp bW .nil pass0 (pa_cons (pv 0) (pa_cons pe_int pa_nil))))) pss_never pss_nil), ?_⟩
    refine ⟨_, rfl, _, _, _, rfl, .int n, .inl ⟨n, rfl, _, rfl, ?_⟩⟩
    rw [decide_eq_true h1]
    exact iteF q
end
end TA
set_option Elab.async false
set_option linter.all false
set_option maxRecDepth 100000
set_option maxHeartbeats 4000000
namespace TA
open PySem PySem.Spec PyProof.Rows L2
section
variable {P : Program} {w : World} {K : PySem.W.Frag} {mg : Str → Option Value} {base : Heap}
def spCkNumber : Sp := fun vs H Q _ => ∃ n, vs = [.int n] ∧ 0 ≤ n ∧ n ≤ 3000 ∧ Q .non H
theorem scCkNumber : FnScope ["number"] ["number"] (defScope sCkNumber) := ⟨rfl, rfl, rfl, by decide +kernel, rfl, by decide +kernel, by decide +kernel⟩
theorem ok_ck_number {f fW : Addr} {fd fdW : FuncData} {t : Tok} (F : Fun K "check_number" "check_number" sCkNumber f fd) (FW : Fun K "is_whole" "is_whole" sIsWhole fW fdW) (bW : Binds K fdW ["value", "least"] []) (gW : mg "is_whole" = some (.ref fW))
    (gG : mg "GREATEST_NUMBER" = some (.int 3000 t)) (mt : mg "type" = none) (mi : mg "int" = none) :
    FnOk P w K mg base CX0 2 f fd ["number"] spCkNumber := by
  have GW : FnOk P w K mg base CX0 1 fW fdW ["value", "least"] (spIsWhole K) := ok_is_whole FW mt mi
  refine F.ok scCkNumber (fun vs H Q E h => ?_) (fun cdv A outer s H vs Q E hr h => ?_)
  · obtain ⟨n, rfl, _⟩ := h
    rfl
  · obtain ⟨n, rfl, h1, h2, q⟩ := h
    refine ⟨_, pss_one (ps_if (PW.pt (pw_or (pt_not (pt_val (pe_call GW hr (by rfl) gW FW.kp bW .nil pass0 (pa_cons (pv 0) (pa_cons pe_int pa_nil)))))
      (pw_or1 (pt_cmpR op_gt (pv 0) (pe_glob (v := .int 3000) (by rfl) gG ⟨_, rfl⟩) (nomark _))))) pss_never pss_nil), ?_⟩
    refine ⟨_, rfl, _, _, _, rfl, .int n, .inl ⟨n, rfl, _, rfl, ?_⟩⟩
    rw [decide_eq_true h1]
    refine iteF ⟨_, rfl, _, _, rfl, rfl, _, rfl, ?_⟩
    rw [decide_eq_false (by omega)]
    exact iteF q
end
end TA
set_option Elab.async false
set_option linter.all false
set_option maxRecDepth 100000
set_option maxHeartbeats 4000000
namespace TA
open PySem PySem.Spec PyProof.Rows L2
theorem vlast {xs : List Int} {l : List Int} {z : Int} (e : xs = l ++ [z]) : atI (xs.map V.int) (-1) = some (.int z) := by
  rw [e, List.map_append]
  exact atI_last _ _
theorem vat {xs : List Int} {p : Int} {z : Int} (h0 : 0 ≤ p) (e : xs[p.toNat]? = some z) : atI (xs.map V.int) p = some (.int z) :=
  at_of (j := p.toNat) (by omega) (by rw [List.getElem?_map, e]; rfl)
theorem f_small {f : Int} (h1 : 1 ≤ f) (h2 : f ≤ 30) : -(2 ^ 64) < f ∧ f < 2 ^ 64 := by
  constructor
  · have : (2 : Int) ^ 64 = 18446744073709551616 := by decide
    omega
  · have : (2 : Int) ^ 64 = 18446744073709551616 := by decide
    omega
def rowV (f : Int) (n : Nat) : List V := (row f n).map V.int
theorem rowV_length (f : Int) (n : Nat) : (rowV f n).length = n + 1 := by unfold rowV; rw [List.length_map, row_length]
theorem rowV_succ (f : Int) (n : Nat) : rowV f (n + 1) = rowV f n ++ [.int (st f (n + 1))] := by unfold rowV; rw [row_succ, List.map_append]; rfl
theorem rowV_last (f : Int) (n : Nat) : atI (rowV f n) (-1) = some (.int (st f n)) := by
  obtain ⟨l, e⟩ := row_last f n
  exact vlast e
theorem small_line {n : Nat} (h : n ≤ 1000000) : n < sizeLine := Nat.lt_of_le_of_lt h (by decide)
section
variable {P : Program} {w : World} {K : PySem.W.Frag} {mg : Str → Option Value} {base : Heap}
/-! ### add_step -/
def spAddStep : Sp := fun vs H Q _ => ∃ (f : Int) (r : Addr) (p : Int) (n : Nat), vs = [.int f, .ref r, .int p] ∧ 1 ≤ f ∧ f ≤ 30 ∧ H r = some (.lst (rowV f n)) ∧ Place f n p ∧ n ≤ 10000 ∧
  ∀ p', Place f (n + 1) p' → Q (.int p') (upd H r (.lst (rowV f (n + 1))))
theorem scAddStep : FnScope ["factor", "row", "place"] ["factor", "row", "place"] (defScope sAddStep) := ⟨rfl, rfl, rfl, by decide +kernel, rfl, by decide +kernel, by decide +kernel⟩
theorem ok_add_step {f : Addr} {fd : FuncData} (F : Fun K "add_step" "add_step" sAddStep f fd) :
    FnOk P w K mg base CX0 1 f fd ["factor", "row", "place"] spAddStep := by
  refine F.ok scAddStep (fun vs H Q E h => ?_) (fun cdv A outer s H vs Q E hr h => ?_)
  · obtain ⟨f, r, p, n, rfl, _⟩ := h
    rfl
  · obtain ⟨f, r, p, n, rfl, h1, h30, hR, hp, hn, q⟩ := h
    refine ⟨_, pss_cons (ps_while PassesOwn.never (pt_cmpR op_lt (pe_op op_mul (pv 0) (pe_ix ix_list (pv 1) (pv 2) (fun _ _ => rfl))) (pe_ix ix_list (pv 1) (pe_un un_neg pe_int) (fun _ _ => rfl)) (nomark _))
        (pss_one (ps_aug (i := 2) scAddStep.nd rfl (.inl rfl) pe_int ip_add)))
      (pss_cons (ps_expr (pe_bm PySem.F.plainAttrs_list PySem.F.slot_list_append PySem.F.type_list_append mt_append (pv 1) (pa_cons (pe_op op_add (pe_ix ix_list (pv 1) (pe_un un_neg pe_int) (fun _ _ => rfl)) (pe_ix ix_list (pv 1) (pv 2) (fun _ _ => rfl))) pa_nil)))
      (pss_one (ps_ret (pv 2)))), ?_⟩
    refine ⟨fun m σ H' => H' = H ∧ ∃ p : Int, σ = [some (.int f), some (.ref r), some (.int p)] ∧ Place f n p ∧ p + m = n, ?_, ?_⟩
    · obtain ⟨x, _, a0, a1, _⟩ := place_at h1 hp
      exact ⟨(n - p).toNat, rfl, p, rfl, hp, by omega⟩
    · rintro m σ H' ⟨rfl, p, rfl, hp, em⟩
      obtain ⟨x, hx, p0, pn, more, last⟩ := place_at h1 hp
      have hL : SqL K H' r (rowV f n) := SqL.of hR
      have gx : atI (rowV f n) p = some (.int x) := vat p0 hx
      refine ⟨.int f, rfl, .ref r, rfl, .int p, rfl, r, _, _, _, rfl, rfl, hL, gx, f, x, rfl, rfl, .inl (f_small h1 h30), .ref r, rfl, 1, rfl, r, _, _, _, rfl, rfl, hL, rowV_last f n, _, _, rfl, rfl, _, rfl, ?_⟩
      refine ite2 (fun c => ?_) (fun c => ?_)
      · obtain ⟨hp', plt⟩ := more (of_decide_eq_true c)
        refine ⟨fun σ' H'' => H'' = H' ∧ σ' = [some (.int f), some (.ref r), some (.int (p + 1))], fun σ' H'' ⟨e1, e2⟩ => ⟨m - 1, by omega, e1, p + 1, e2, hp', by omega⟩, ?_⟩
        exact ⟨_, rfl, _, _, rfl, rfl, rfl, rfl⟩
      · obtain ⟨en, hp'⟩ := last (of_decide_eq_false (Bool.eq_false_iff.mpr c))
        refine ⟨.ref r, rfl, .inl ⟨rfl, _, hL⟩, .ref r, rfl, 1, rfl, r, _, _, _, rfl, rfl, hL, rowV_last f n, .ref r, rfl, .int p, rfl, r, _, _, _, rfl, rfl, hL, gx, st f n, x, rfl, rfl, r, _, _, rfl, rfl, hR, ?_, .int p, rfl, ?_⟩
        · rw [rowV_length]
          exact small_line (by omega)
        · have := q p hp'
          rw [rowV_succ, st_succ, en] at this
          exact this
end
end TA
set_option Elab.async false
set_option linter.all false
set_option maxRecDepth 100000
set_option maxHeartbeats 4000000
namespace TA
open PySem PySem.Spec PyProof.Rows L2
/-! ### == of lists of ints -/
theorem eqv_ints : ∀ as bs : List Int, PyData.eqvAll (as.map .int) (bs.map .int) = decide (as = bs)
  | [], [] => rfl
  | [], _ :: _ => rfl
  | _ :: _, [] => rfl
  | a :: as, b :: bs => by
    show (PyData.eqv (.int a) (.int b) && PyData.eqvAll (as.map .int) (bs.map .int)) = _
    rw [eqv_ints as bs]
    have e : PyData.eqv (.int a) (.int b) = decide (a = b) := by
      rw [PyData.eqv]
      by_cases h : a = b
      · subst h; simp
      · simp [h]
    rw [e]
    by_cases h : a = b
    · subst h; simp
    · simp [h]
theorem lay_ints : ∀ as : List Int, PyData.canLayAll0 (as.map .int) = true ∧ PyData.depthAll (as.map .int) = 0
  | [] => ⟨rfl, rfl⟩
  | a :: as => by
    obtain ⟨h1, h2⟩ := lay_ints as
    constructor
    · show (PyData.canLay0 (.int a) && PyData.canLayAll0 (as.map .int)) = true
      rw [h1]; simp [PyData.canLay0]
    · show max (PyData.depth (.int a)) (PyData.depthAll (as.map .int)) = 0
      rw [h2]; simp [PyData.depth]
theorem shaped_ints (as : List Int) : SeqAt.shaped (.list (as.map .int)) = true := by
  obtain ⟨h1, h2⟩ := lay_ints as
  unfold SeqAt.shaped
  have e1 : PyData.canLay0 (.list (as.map .int)) = true := by simp only [PyData.canLay0]; exact h1
  have e2 : PyData.depth (.list (as.map .int)) ≤ 64 := by simp only [PyData.depth]; rw [h2]; decide
  rw [e1, decide_eq_true e2]; rfl
theorem dp_all {K : PySem.W.Frag} {H : Hp} : ∀ ns : List Int, DpAll K H (ns.map V.int) (ns.map PyData.int)
  | [] => .nil
  | n :: ns => .cons (.int n) (dp_all ns)
theorem dp_ints {K : PySem.W.Frag} {H : Hp} {a : Addr} {ns : List Int} (h : SqL K H a (ns.map V.int)) : Dp K H (.ref a) (.list (ns.map PyData.int)) := .lst h (dp_all ns)
def rEqL (K : PySem.W.Frag) : R2 := fun x y H Q => ∃ (a b : Addr) (xs ys : List Int), x = .ref a ∧ y = .ref b ∧ SqL K H a (xs.map V.int) ∧ SqL K H b (ys.map V.int) ∧ Q (.bl (decide (xs = ys))) H
def rNeL (K : PySem.W.Frag) : R2 := fun x y H Q => ∃ (a b : Addr) (xs ys : List Int), x = .ref a ∧ y = .ref b ∧ SqL K H a (xs.map V.int) ∧ SqL K H b (ys.map V.int) ∧ Q (.bl (!decide (xs = ys))) H
section
variable {X : Cx}
theorem op_eqL (hu : X.A.units + 64 < cLine) : OpR X (compareOp .Eq) (rEqL X.K) := by
  intro pins s σ H x y v u Q I rx ry h
  obtain ⟨a, b, xs, ys, rfl, rfl, h1, h2, q⟩ := h
  refine op_eqD hu pins s σ H _ _ v u Q I rx ry ⟨_, _, dp_ints h1, dp_ints h2, shaped_ints _, shaped_ints _, ?_⟩
  rw [PyData.eqv, eqv_ints]
  exact q
theorem op_neL (hu : X.A.units + 64 < cLine) : OpR X (compareOp .NotEq) (rNeL X.K) := by
  intro pins s σ H x y v u Q I rx ry h
  obtain ⟨a, b, xs, ys, rfl, rfl, h1, h2, q⟩ := h
  refine op_neD hu pins s σ H _ _ v u Q I rx ry ⟨_, _, dp_ints h1, dp_ints h2, shaped_ints _, shaped_ints _, ?_⟩
  rw [PyData.eqv, eqv_ints]
  exact q
end
theorem same_new {H H' : Hp} {p : Addr} {o : HO} (s : Same H H') (h : H p = none) : Same H (upd H' p o) := fun b x e => by
  rw [upd_ne (ne_of_none e h)]
  exact s b x e
theorem same_upd {H : Hp} {p : Addr} {o : HO} (h : H p = none) : Same H (upd H p o) := same_new (Same.refl H) h
end TA
set_option Elab.async false
set_option linter.all false
set_option maxRecDepth 100000
set_option maxHeartbeats 4000000
namespace TA
open PySem PySem.Spec PyProof.Rows L2
/-- the greatest heap that is asked: below 2 ^ B -/
abbrev Bd : Int := 2 ^ 300
theorem num_of {f : Int} {n : Nat} {h : Int} (h1 : 1 ≤ f) (h30 : f ≤ 30) (hz : st f n ≤ h) (hb : h < Bd) : n < 9000 :=
  st_small h1 h30 (B := 300) (Int.lt_of_le_of_lt hz hb)
section
variable {P : Program} {w : World} {K : PySem.W.Frag} {mg : Str → Option Value} {base : Heap}
/-! ### row_past -/
def spRowPast : Sp := fun vs H Q _ => ∃ (f h : Int), vs = [.int f, .int h] ∧ 1 ≤ f ∧ f ≤ 30 ∧ h < Bd ∧
  ∀ (n : Nat) (r : Addr) (H' : Hp), h < st f n → n ≤ 9000 → Same H H' → H r = none → H' r = some (.lst (rowV f n)) → Q (.ref r) H'
theorem scRowPast : FnScope ["factor", "heap", "row", "place"] ["factor", "heap"] (defScope sRowPast) := ⟨rfl, rfl, rfl, by decide +kernel, rfl, by decide +kernel, by decide +kernel⟩
theorem ok_row_past {f fA : Addr} {fd fdA : FuncData} (F : Fun K "row_past" "row_past" sRowPast f fd) (FA : Fun K "add_step" "add_step" sAddStep fA fdA) (bA : Binds K fdA ["factor", "row", "place"] []) (gA : mg "add_step" = some (.ref fA)) :
    FnOk P w K mg base CX0 2 f fd ["factor", "heap"] spRowPast := by
  have GA : FnOk P w K mg base CX0 1 fA fdA ["factor", "row", "place"] spAddStep := ok_add_step FA
  refine F.ok scRowPast (fun vs H Q E h => ?_) (fun cdv A outer s H vs Q E hr h => ?_)
  · obtain ⟨f, h, rfl, _⟩ := h
    rfl
  · obtain ⟨f, h, rfl, h1, h30, hB, q⟩ := h
    refine ⟨_, pss_cons (ps_set (i := 2) scRowPast.nd rfl (Or.inl rfl) (pe_lst (pa_cons pe_int pa_nil))) (pss_cons (ps_set (i := 3) scRowPast.nd rfl (Or.inl rfl) pe_int)
      (pss_cons (ps_while PassesOwn.never (pt_cmpR op_le (pe_ix ix_list (pv 2) (pe_un un_neg pe_int) (fun _ _ => rfl)) (pv 1) (nomark _))
        (pss_one (ps_set (i := 3) scRowPast.nd rfl (Or.inl rfl) (pe_call GA hr (by rfl) gA FA.kp bA .nil pass0 (pa_cons (pv 0) (pa_cons (pv 2) (pa_cons (pv 3) pa_nil)))))))
      (pss_one (ps_ret (pv 2))))), ?_⟩
    refine ⟨(by show 1 ≤ sizeLine; decide), fun r nr => ?_⟩
    refine ⟨fun m σ H' => ∃ (n : Nat) (p : Int), σ = [some (.int f), some (.int h), some (.ref r), some (.int p)] ∧ Same H H' ∧ H' r = some (.lst (rowV f n)) ∧ Place f n p ∧ n ≤ 9000 ∧ m = (h + 1 - st f n).toNat, ⟨_, 0, 0, rfl, same_upd nr, upd_same, place_zero f, Nat.zero_le _, rfl⟩, ?_⟩
    rintro m σ H' ⟨n, p, rfl, sm, hR, hp, hn, rfl⟩
    refine ⟨.ref r, rfl, 1, rfl, r, _, _, _, rfl, rfl, SqL.of hR, rowV_last f n, .int h, rfl, _, _, rfl, rfl, _, rfl, ?_⟩
    refine ite2 (fun c => ?_) (fun c => ?_)
    · have hz : st f n ≤ h := of_decide_eq_true c
      have hn2 := num_of h1 h30 hz hB
      have hlt := st_lt h1 n
      refine ⟨fun σ' H'' => ∃ p', σ' = [some (.int f), some (.int h), some (.ref r), some (.int p')] ∧ H'' = upd H' r (.lst (rowV f (n + 1))) ∧ Place f (n + 1) p', ?_, ?_⟩
      · rintro σ' H'' ⟨p', rfl, rfl, hp'⟩
        exact ⟨(h + 1 - st f (n + 1)).toNat, by omega, n + 1, p', rfl, same_new sm nr, upd_same, hp', by omega, rfl⟩
      · exact ⟨_, rfl, _, rfl, _, rfl, f, r, p, n, rfl, h1, h30, hR, hp, by omega, fun p' hp' => ⟨p', rfl, rfl, hp'⟩⟩
    · have hz : ¬ st f n ≤ h := of_decide_eq_false (Bool.eq_false_iff.mpr c)
      exact ⟨_, rfl, q n r H' (by omega) hn sm nr hR⟩
/-! ### sum_of -/
def spSumOf : Sp := fun vs H Q _ => ∃ (f h : Int), vs = [.int f, .int h] ∧ 1 ≤ f ∧ f ≤ 30 ∧ 0 ≤ h ∧ h < Bd ∧
  ∀ (r : Addr) (H' : Hp), (parts f h).length ≤ 9001 → Same H H' → H r = none → H' r = some (.lst ((parts f h).map V.int)) → Q (.ref r) H'
theorem scSumOf : FnScope ["factor", "heap", "parts", "left", "step"] ["factor", "heap"] (defScope sSumOf) := ⟨rfl, rfl, rfl, by decide +kernel, rfl, by decide +kernel, by decide +kernel⟩
theorem rev_item {f : Int} {n i : Nat} {x : V} (h : (rowV f n)[(rowV f n).length - 1 - i]? = some x) (hi : i < (rowV f n).length) : ∃ s, x = .int s ∧ (rowR f n).drop i = s :: (rowR f n).drop (i + 1) := by
  have hi' : i < (rowR f n).length := by rw [rowV_length] at hi; rw [rowR_len]; exact hi
  refine ⟨(rowR f n)[i], ?_, List.drop_eq_getElem_cons hi'⟩
  rw [rowV_length] at h
  unfold rowV row at h
  rw [List.getElem?_map, List.getElem?_reverse (by rw [rowR_len]; omega), rowR_len] at h
  have e : n + 1 - 1 - (n + 1 - 1 - i) = i := by rw [rowR_len] at hi'; omega
  rw [e, List.getElem?_eq_getElem hi'] at h
  exact (Option.some.inj h).symm
theorem ok_sum_of {f fR fC fN : Addr} {fd fdR fdC fdN : FuncData} (F : Fun K "sum_of" "sum_of" sSumOf f fd)
    (GR : FnOk P w K mg base CX0 2 fR fdR ["factor", "heap"] spRowPast) (kR : PySem.W.keepIn K (.ref fR) = true) (bR : Binds K fdR ["factor", "heap"] []) (gR : mg "row_past" = some (.ref fR))
    (GC : FnOk P w K mg base CX0 2 fC fdC ["factor"] spCkFactor) (kC : PySem.W.keepIn K (.ref fC) = true) (bC : Binds K fdC ["factor"] []) (gC : mg "check_factor" = some (.ref fC))
    (GN : FnOk P w K mg base CX0 2 fN fdN ["heap"] spCkHeap) (kN : PySem.W.keepIn K (.ref fN) = true) (bN : Binds K fdN ["heap"] []) (gN : mg "check_heap" = some (.ref fN)) (mr : mg "reversed" = none) :
    FnOk P w K mg base CX0 3 f fd ["factor", "heap"] spSumOf := by
  refine F.ok scSumOf (fun vs H Q E h => ?_) (fun cdv A outer s H vs Q E hr h => ?_)
  · obtain ⟨f, h, rfl, _⟩ := h
    rfl
  · obtain ⟨f, h, rfl, h1, h30, h0, hB, q⟩ := h
    refine ⟨_, pss_cons (ps_expr (pe_call GC hr (by rfl) gC kC bC .nil pass0 (pa_cons (pv 0) pa_nil))) (pss_cons (ps_expr (pe_call GN hr (by rfl) gN kN bN .nil pass0 (pa_cons (pv 1) pa_nil)))
      (pss_cons (ps_set (i := 2) scSumOf.nd rfl (Or.inl rfl) (pe_lst pa_nil)) (pss_cons (ps_set (i := 3) scSumOf.nd rfl (Or.inl rfl) (pv 1))
      (pss_cons (ps_for PassesOwn.never rfl (pi_reversed (by rfl) mr (pa_cons (pe_call GR hr (by rfl) gR kR bR .nil pass0 (pa_cons (pv 0) (pa_cons (pv 1) pa_nil))) pa_nil)) (pg_name (i := 4) scSumOf.nd rfl (Or.inl rfl))
        (pss_one (ps_if (pt_cmpR op_le (pv 4) (pv 3) (nomark _))
          (pss_cons (ps_expr (pe_bm PySem.F.plainAttrs_list PySem.F.slot_list_append PySem.F.type_list_append mt_append (pv 2) (pa_cons (pv 4) pa_nil)))
            (pss_one (ps_aug (i := 3) scSumOf.nd rfl (.inl rfl) (pv 4) ip_sub))) pss_nil)))
      (pss_one (ps_ret (pv 2))))))), ?_⟩
    refine ⟨_, rfl, f, rfl, h1, h30, ?_⟩
    refine ⟨_, rfl, h, rfl, h0, ?_⟩
    refine ⟨Nat.zero_le _, fun p np => ?_⟩
    refine ⟨_, rfl, ?_⟩
    refine ⟨_, rfl, _, rfl, f, h, rfl, h1, h30, hB, fun n r H1 hz hn sm1 nr1 hR => ?_⟩
    have nr : H r = none := (same_upd (o := .lst []) np).free nr1
    have hpr : r ≠ p := fun e => by rw [e, upd_same] at nr1; cases nr1
    have hp1 : H1 p = some (.lst []) := sm1 _ _ upd_same
    have sm0 : Same H H1 := (same_upd np).trans sm1
    refine ⟨r, _, rfl, SqL.of hR, RT.for_Itv (K := K) (a := r) (xs := rowV f n) (fun i σ H' => ∃ (acc : List Int) (l : Int) (v : Option V), σ = [some (.int f), some (.int h), some (.ref p), some (.int l), v] ∧ Same H H' ∧ H' r = some (.lst (rowV f n)) ∧
      H' p = some (.lst (acc.map V.int)) ∧ acc ++ gr ((rowR f n).drop i) l = gr (rowR f n) h ∧ acc.length ≤ i) ?_ ?_ ?_ ?_⟩
    · exact ⟨[], h, none, rfl, sm0, hR, hp1, rfl, Nat.le_refl _⟩
    · rintro i σ H' ⟨_, _, _, _, _, hR', _⟩
      exact SqL.of hR'
    · rintro i x σ H' hi hx ⟨acc, l, v, rfl, sm, hR', hp', eg, hl⟩
      obtain ⟨z, rfl, ed⟩ := rev_item hx hi
      rw [rowV_length] at hi
      refine ⟨.int z, rfl, .int l, rfl, z, l, rfl, rfl, _, rfl, ?_⟩
      rw [ed] at eg
      refine ite2 (fun c => ?_) (fun c => ?_)
      · have c' : z ≤ l := of_decide_eq_true c
        refine ⟨.ref p, rfl, .inl ⟨rfl, _, SqL.of hp'⟩, .int z, rfl, p, _, _, rfl, rfl, hp', ?_, ?_⟩
        · rw [List.length_map]
          exact small_line (by omega)
        · refine ⟨_, rfl, .int z, rfl, l, z, rfl, rfl, acc ++ [z], l - z, _, rfl, same_new sm np, ?_, ?_, ?_, ?_⟩
          · rw [upd_ne hpr]; exact hR'
          · rw [upd_same, List.map_append]; rfl
          · rw [gr_pos c'] at eg
            rw [← eg, List.append_assoc]; rfl
          · rw [List.length_append, List.length_singleton]; omega
      · have c' : ¬ z ≤ l := of_decide_eq_false (Bool.eq_false_iff.mpr c)
        refine ⟨acc, l, _, rfl, sm, hR', hp', ?_, by omega⟩
        rw [gr_neg c'] at eg
        exact eg
    · rintro σ H' ⟨acc, l, v, rfl, sm, hR', hp', eg, hl⟩
      have e : (rowR f n).drop (rowV f n).length = [] := List.drop_eq_nil_of_le (by rw [rowV_length, rowR_len]; exact Nat.le_refl _)
      rw [e] at eg
      have e2 : acc = parts f h := by
        rw [← parts_of h1 h0 hz, ← eg, gr_nil, List.append_nil]
      subst e2
      rw [rowV_length] at hl
      exact ⟨.ref p, rfl, q p H' (by omega) sm np hp'⟩
end
end TA
set_option Elab.async false
set_option linter.all false
set_option maxRecDepth 100000
set_option maxHeartbeats 4000000
namespace TA
open PySem PySem.Spec PyProof.Rows L2
section
variable {P : Program} {w : World} {K : PySem.W.Frag} {mg : Str → Option Value} {base : Heap}
/-! ### step_by -/
def spStepBy : Sp := fun vs H Q _ => ∃ (f n : Int), vs = [.int f, .int n] ∧ 1 ≤ f ∧ f ≤ 30 ∧ 0 ≤ n ∧ n ≤ 3000 ∧ ∀ H', Same H H' → Q (.int (st f n.toNat)) H'
theorem scStepBy : FnScope ["factor", "number", "row", "place", "_"] ["factor", "number"] (defScope sStepBy) := ⟨rfl, rfl, rfl, by decide +kernel, rfl, by decide +kernel, by decide +kernel⟩
theorem ok_step_by {f fA fC fN : Addr} {fd fdA fdC fdN : FuncData} (F : Fun K "step_by" "step_by" sStepBy f fd) (FA : Fun K "add_step" "add_step" sAddStep fA fdA) (bA : Binds K fdA ["factor", "row", "place"] []) (gA : mg "add_step" = some (.ref fA))
    (GC : FnOk P w K mg base CX0 2 fC fdC ["factor"] spCkFactor) (kC : PySem.W.keepIn K (.ref fC) = true) (bC : Binds K fdC ["factor"] []) (gC : mg "check_factor" = some (.ref fC))
    (GN : FnOk P w K mg base CX0 2 fN fdN ["number"] spCkNumber) (kN : PySem.W.keepIn K (.ref fN) = true) (bN : Binds K fdN ["number"] []) (gN : mg "check_number" = some (.ref fN)) (mr : mg "range" = none) :
    FnOk P w K mg base CX0 3 f fd ["factor", "number"] spStepBy := by
  have GA : FnOk P w K mg base CX0 1 fA fdA ["factor", "row", "place"] spAddStep := ok_add_step FA
  refine F.ok scStepBy (fun vs H Q E h => ?_) (fun cdv A outer s H vs Q E hr h => ?_)
  · obtain ⟨f, h, rfl, _⟩ := h
    rfl
  · obtain ⟨f, k, rfl, h1, h30, k0, k1, q⟩ := h
    refine ⟨_, pss_cons (ps_expr (pe_call GC hr (by rfl) gC kC bC .nil pass0 (pa_cons (pv 0) pa_nil))) (pss_cons (ps_expr (pe_call GN hr (by rfl) gN kN bN .nil pass0 (pa_cons (pv 1) pa_nil)))
      (pss_cons (ps_set (i := 2) scStepBy.nd rfl (Or.inl rfl) (pe_lst (pa_cons pe_int pa_nil))) (pss_cons (ps_set (i := 3) scStepBy.nd rfl (Or.inl rfl) pe_int)
      (pss_cons (ps_for PassesOwn.never rfl (pi_range1 (by rfl) mr (pa_cons (pv 1) pa_nil)) (pg_name (i := 4) scStepBy.nd rfl (Or.inl rfl))
        (pss_one (ps_set (i := 3) scStepBy.nd rfl (Or.inl rfl) (pe_call GA (hr.mono (by decide)) (by rfl) gA FA.kp bA .nil pass0 (pa_cons (pv 0) (pa_cons (pv 2) (pa_cons (pv 3) pa_nil)))))))
      (pss_one (ps_ret (pe_ix ix_list (pv 2) (pe_un un_neg pe_int) (fun _ _ => rfl)))))))), ?_⟩
    refine ⟨_, rfl, f, rfl, h1, h30, ?_⟩
    refine ⟨_, rfl, k, rfl, k0, k1, ?_⟩
    refine ⟨(by show 1 ≤ sizeLine; decide), fun r nr => ?_⟩
    refine ⟨_, rfl, k, rfl, by omega, by omega, for_range (n := k.toNat) (fun i σ H' => ∃ (p : Int) (v : Option V), σ = [some (.int f), some (.int k), some (.ref r), some (.int p), v] ∧ Same H H' ∧ H' r = some (.lst (rowV f i)) ∧ Place f i p) ⟨0, none, rfl, same_upd nr, upd_same, place_zero f⟩ ?_ ?_⟩
    · rintro i σ H' hi ⟨p, v, rfl, sm, hR, hp⟩
      exact ⟨_, rfl, _, rfl, _, rfl, f, r, p, i, rfl, h1, h30, hR, hp, by omega, fun p' hp' => ⟨p', _, rfl, same_new sm nr, upd_same, hp'⟩⟩
    · rintro σ H' ⟨p, v, rfl, sm, hR, hp⟩
      exact ⟨.ref r, rfl, 1, rfl, r, _, _, _, rfl, rfl, SqL.of hR, rowV_last f _, q H' sm⟩
end
end TA
set_option Elab.async false
set_option linter.all false
set_option maxRecDepth 100000
set_option maxHeartbeats 4000000
namespace TA
open PySem PySem.Spec PyProof.Rows L2
/-! ### is_whole called from anywhere, at the library's level -/
theorem isw_body {P : Program} {w : World} {K : PySem.W.Frag} {mg : Str → Option Value} {base : Heap} (M : L2.Mod K mg base) (mt : mg "type" = none) (mi : mg "int" = none)
    {env : Env} (hs : env.scope = defScope sIsWhole) (hg : env.globals = mainGlobals) (hbl : env.builtins = builtinsNs)
    {A : Around} {s : Shared} {u : Value} {m : Int} {t : Tok} {T : String} {b : Bool} {mm : Str → Option Value} {Q : Flow → Shared → Prop} {E : Value → Shared → Prop}
    (bs : ∀ b o, base.get? b = some o → s.heap.get? b = some o)
    (ty : s.TypeIs u T) (nb : (Value.type T == Value.type "builtin_function_or_method") = false) (hb : (∃ n t', u = .int n t' ∧ T = "int" ∧ b = decide (m ≤ n)) ∨ (T ≠ "int" ∧ b = false))
    (ns : s.heap.Ns env.locals mm) (m1 : mm "value" = some u) (m2 : mm "least" = some (.int m t))
    (h : ∀ k, Q (.ret (.bool b)) { s with toks := k }) : wpAny (model P w) A (execs (defBody sIsWhole) env) Q E s := by
  have hk : env.scope.kind = .function := by rw [hs]; rfl
  have lv : ∀ {p : Pos} {Q' : Value → Shared → Prop} {E' : Value → Shared → Prop} {s' : Shared}, s'.heap.Ns env.locals mm → Q' u s' → wpAny (model P w) A (eval (.Name "value" p) env) Q' E' s' := fun hn q =>
    wpAny_Name (wpAny_loadName_local hk (by show env.scope.names.lookup _ = _; rw [hs]; rfl) hn m1 q) (by decide)
  have ll : ∀ {p : Pos} {Q' : Value → Shared → Prop} {E' : Value → Shared → Prop} {s' : Shared}, s'.heap.Ns env.locals mm → Q' (.int m t) s' → wpAny (model P w) A (eval (.Name "least" p) env) Q' E' s' := fun hn q =>
    wpAny_Name (wpAny_loadName_local hk (by show env.scope.names.lookup _ = _; rw [hs]; rfl) hn m2 q) (by decide)
  have lb : ∀ {x : Str} {p : Pos} {v : Value} {Q' : Value → Shared → Prop} {E' : Value → Shared → Prop} {s' : Shared}, (∀ b o, base.get? b = some o → s'.heap.get? b = some o) → (defScope sIsWhole).names.lookup x = some .globalImplicit → mg x = none → bootBuiltins x = some v → x ≠ "__name__" → (x == ("__debug__" : Str)) = false →
      Q' v s' → wpAny (model P w) A (eval (.Name x p) env) Q' E' s' := fun hbs hx hm hv hn hd q => by
    obtain ⟨mb, h1, h2⟩ := M.blt
    exact Calls.Name_function_global hk (by show env.scope.names.lookup _ = _; rw [hs]; exact hx) (Calls.loadGlobal_builtin (by rw [hg]; exact M.glob.keeps hbs) hm (by rw [hbl]; exact h1.keeps hbs) ((h2 _ hn).trans hv) q) hd
  refine wpAny_execs_cons (wpAny_Return_some (BoolOp_and ?_))
  refine wpAny_Compare1 (wpAny_Call_Name_kw (lb (v := .type "type") bs (by rfl) mt (by decide +kernel) (by decide) (by decide) ?_)) (nomark _)
  refine PyProof.Rows.callWith_type1 ?_ (by rfl) (by rfl)
  refine Calls.spliced_cons (lv ns ?_)
  refine Calls.spliced_nil (call_type_of ty nb ?_)
  refine lb (v := .type "int") bs (by rfl) mi (by decide +kernel) (by decide) (by decide) ?_
  refine wpAny_is_plain rfl ?_
  refine wpAny_truthy_bool ?_
  have etb : (Value.type T == Value.type "int") = decide (T = "int") := ty_beq _ _
  rcases hb with ⟨n, t', rfl, rfl, rfl⟩ | ⟨ne, rfl⟩
  · rw [etb, decide_eq_true rfl]
    refine BoolOp_one (wpAny_Compare1 (lv ns (ll ns ?_)) (nomark _))
    refine ge_int ?_
    exact h _
  · rw [etb, decide_eq_false ne]
    exact h _
theorem isw_call {P : Program} {w : World} {K : PySem.W.Frag} {mg : Str → Option Value} {base : Heap} {f : Addr} {fd : FuncData} (F : Fun K "is_whole" "is_whole" sIsWhole f fd) (M : L2.Mod K mg base) (mt : mg "type" = none) (mi : mg "int" = none)
    {A : Around} {s : Shared} {u : Value} {m : Int} {t : Tok} {T : String} {b : Bool} {Q : Value → Shared → Prop} {E : Value → Shared → Prop}
    (hdp : A.depth + 8 < recursionLimit)
    (bs : ∀ b o, base.get? b = some o → s.heap.get? b = some o)
    (nb : (Value.type T == Value.type "builtin_function_or_method") = false) (hb : (∃ n t', u = .int n t' ∧ T = "int" ∧ b = decide (m ≤ n)) ∨ (T ≠ "int" ∧ b = false))
    (hup : ∀ s' : Shared, (∀ b o, s.heap.get? b = some o → s'.heap.get? b = some o) → s'.TypeIs u T)
    (h : ∀ h' k, (∀ b o, s.heap.get? b = some o → h'.get? b = some o) → Q (.bool b) { s with heap := h', toks := k }) :
    wpAny (model P w) A (call (.ref f) [u, .int m t]) Q E s := by
  have FB := F.binds (ps := ["value", "least"]) fun _ _ _ _ _ _ us hl => match us, hl with | [_, _], _ => rfl
  obtain ⟨oc, od, kV, doc, pm, an, cdv, ct, osl, rfl, lk, hcd⟩ := F.ex
  have KX : K.In s.heap := M.kin.keeps bs
  have lim : s.heap.NoLimit := M.nolimit.keeps bs
  have S := scIsWhole
  have hkind : ∀ y ∈ (["value", "least"] : List Str).zip [u, Value.int m t], (defScope sIsWhole).names.lookup y.1 = some .local ∨ ((defScope sIsWhole).names.lookup y.1 = some .cell ∧ ((cellsFrom (s.heap.objs.size + 1) (defScope sIsWhole).names []).lookup y.1).isSome = true) := fun ⟨n, v⟩ hy => by
    rcases S.par n (List.of_mem_zip hy).1 with q | q
    · exact .inl q
    · exact .inr ⟨q, PySem.W.cellsFrom_some _ _ _ (.inl q)⟩
  refine wpAny_call (codeAny_call_function (by omega) (KX _ _ lk) rfl S.co S.gen rfl (PySem.W.codeRec_of KX hcd) (FB s [u, .int m t] KX rfl _ _ _ _ ?_))
  refine wpAny_newFunctionEnv_cells S.kind hkind fun env he s1 x => ?_
  have e1 : env.scope = defScope sIsWhole := by rw [he]; rfl
  have e2 : env.globals = mainGlobals := by rw [he]; rfl
  have e3 : env.builtins = builtinsNs := by rw [he]; rfl
  have e4 : env.kindOf "value" = some .local := by rw [he]; rfl
  have e5 : env.kindOf "least" = some .local := by rw [he]; rfl
  clear he
  refine ⟨lim.keeps x.toInCall.keep, codeAny_func ?_⟩
  obtain ⟨h1, tk, rfl, hk⟩ := x.done
  have ns := x.toInCall.ns
  refine isw_body M mt mi e1 e2 e3 (fun b o e => hk b o (bs b o e)) (hup _ hk) nb hb ns (bindL_get (P := ["value", "least"]) (i := 0) (by decide) rfl rfl e4) (bindL_get (P := ["value", "least"]) (i := 1) (by decide) rfl rfl e5) fun k => ?_
  exact h h1 k hk
end TA
set_option Elab.async false
set_option linter.all false
set_option maxRecDepth 100000
set_option maxHeartbeats 4000000
namespace TA
open PySem PySem.Spec PyProof.Rows L2
/-! ### all(is_whole(number, least) for number in e) -/
/-- v is whole from m on, or not: b -/
def WholeIs (K : PySem.W.Frag) (H : Hp) (m : Int) (v : V) (b : Bool) : Prop := ∃ T, TyB K H v T ∧ ((∃ n, v = .int n ∧ b = decide (m ≤ n)) ∨ (T ≠ "int" ∧ b = false))
abbrev gsc : Scope := { kind := .function, names := [((".0" : Str), NameKind.local), (("number" : Str), NameKind.local), (("least" : Str), NameKind.free), (("is_whole" : Str), NameKind.globalImplicit)], isGenerator := true, isCoroutine := false, more := [] }
abbrev isE (p1 p2 p3 p4 : Pos) : Expr := .Call (.Name "is_whole" p1) [.Name "number" p2, .Name "least" p3] [] p4
theorem typeIs_keep {s s' : Shared} {u : Value} {T : String} {P : Addr} {ps : Array Value} (h : s.TypeIs u T) (hP : s.heap.get? P = some { cls := .none, data := .fields ps })
    (k : ∀ b o, b ≠ P → s.heap.get? b = some o → s'.heap.get? b = some o) : s'.TypeIs u T := by
  cases u with
  | ref a =>
    obtain ⟨o, h1, h2⟩ := (show ∃ o, s.heap.get? a = some o ∧ o.cls = .type T from h)
    refine ⟨o, k a o (fun z => ?_) h1, h2⟩
    rw [z, hP] at h1
    cases h1
    cases h2
  | _ => exact h
section
variable {X : Cx} {pins : List (Addr × Obj)} {σ : L2.St} {H : Hp} {s : Shared}
def ReadyW (X : Cx) (pins : List (Addr × Obj)) (σ : L2.St) (H1 : Hp) (P : Addr) (bs : List Bool) (g : Addr) (s5 : Shared) : Prop :=
  ∃ (fp wr : List Addr) (G : Array GenState → Array GenState → Prop) (F : Nat → Value → Prop) (St : Nat → Shared → Prop),
    WalksS X.prog X.w X.A.in1 g fp wr G bs.length F St ∧ St 0 s5 ∧
    TruthOf X.prog X.w X.A.in1 F (fun j => bs.getD j false) ∧
    ∀ s', Moved wr G s5 s' → ∃ H2, GxR.Tabbed P H1 H2 ∧ Inv X pins σ H2 s'

theorem gen_lstW {c P f : Addr} {fd : FuncData} {iter : Expr} {px p1 p2 p3 p4 gpos : Pos} {te : TE} {k : Nat} {m : Int} {Q' : Value → Shared → Prop} {R : List Bool → Hp → Prop}
    (hr : Room (k + 2) X.A) (TB : GxR.TabB X.base X.mg c P) (hcode : X.env.code = .ref c) (hi : PE X iter te)
    (F : Fun X.K "is_whole" "is_whole" sIsWhole f fd) (gF : X.mg "is_whole" = some (.ref f)) (mt : X.mg "type" = none) (mi : X.mg "int" = none)
    (hN : X.N[1]? = some ("least" : Str)) (hc : X.env.kindOf "least" = some .cell) (hσ : σ[1]? = some (some (.int m)))
    (hs : ∀ v, genFold iter X.env v = pure v) (I : Inv X pins σ H s)
    (h : te σ H fun v H1 => ∃ (yl : Addr) (vs : List V) (bs : List Bool), v = .ref yl ∧ SqL X.K H1 yl vs ∧ bs.length = vs.length ∧ (∀ (i : Nat) (v : V) (b : Bool), vs[i]? = some v → bs[i]? = some b → WholeIs X.K H1 m v b) ∧ GxR.TabG H1 P ∧ R bs H1)
    (hQ : ∀ bs H1 g s5, R bs H1 → ReadyW X pins σ H1 P bs g s5 → Q' (.ref g) s5) :
    wpAny (model X.prog X.w) X.A (eval (.GeneratorExp (isE p1 p2 p3 p4) [⟨.Name "number" px, iter, [], 0⟩] gsc gpos) X.env) Q' X.xe s := by
  obtain ⟨cl0, hcl0⟩ := I.ok.has "least" (.inl hc)
  have S : GxR.GenS X.env gsc "number" := ⟨rfl, rfl, by decide, by decide, by decide, fun y hy e => by
    simp only [List.mem_cons, List.mem_nil_iff, or_false] at hy
    rcases hy with rfl | rfl | rfl | rfl
    · cases e
    · cases e
    · exact ⟨cl0, hcl0⟩
    · cases e⟩
  have ecl : cloFrom X.env.cells gsc.names [] = [(("least" : Str), cl0)] := by
    show [(("least" : Str), (X.env.cells.lookup ("least" : Str)).getD 0)] = _
    rw [hcl0]
    rfl
  refine wpAny_GeneratorExp_walksQD hr.hd S.co (closure_ok S.free) S.cell S.dot S.loc S.kind (by have := hr.dp; omega) ?_ hs
  refine thn (hi.run pins s σ H _ I h) fun xv s1 ⟨v, H1, I1, r1, q1⟩ => ?_
  obtain ⟨yl, vs, bs, rfl, hyl, hbl, hbs, ⟨ps, hP, ht⟩, q1⟩ := q1
  obtain rfl : xv = Value.ref yl := r1
  obtain ⟨its, rv, hl, hz⟩ := I1.list hyl
  have hIL := hl.isList
  have hlen : its.length = vs.length := by rw [← rv.length]
  have hat : ∀ (i : Nat) (v : Value), its.toArray[i]? = some v → ∃ (a : V), vs[i]? = some a ∧ RelV a v := fun i v hv => by
    have hv2 : its[i]? = some v := by simpa using hv
    have hi2 : i < its.length := (List.getElem?_eq_some_iff.mp hv2).1
    obtain ⟨a, ha⟩ : ∃ a, vs[i]? = some a := ⟨vs[i]'(by omega), List.getElem?_eq_getElem _⟩
    obtain ⟨u, hu, ru⟩ := rv.get ha
    rw [hv2] at hu
    cases hu
    exact ⟨a, ha, ru⟩
  -- least's cell
  obtain ⟨tk0, hcell⟩ : ∃ t, s1.heap.IsCell cl0 (some (.int m t)) := by
    obtain ⟨m0, _, hloc⟩ := I1.loc
    obtain ⟨u, ru, hk⟩ := hloc 1 "least" (.int m) hN hσ (.inr (.inl hc))
    obtain ⟨t, rfl⟩ := (show ∃ t, u = Value.int m t from ru)
    rcases hk with ⟨hk, _⟩ | ⟨_, c', hc', hi'⟩
    · rw [hc] at hk
      cases hk
    · rw [hcl0] at hc'
      cases hc'
      exact ⟨t, hi'⟩
  have hclP : cl0 ≠ P := fun z => by
    have := I1.freeC _ _ hcl0
    rw [z, hP] at this
    cases this
  refine wpAny_pyIter_list hIL ?_
  generalize ho : ({ cls := .type "list_iterator", data := .fields #[.ref yl, .int 0 0] } : Obj) = o
  have hitr : (s1.heap.push o).IsListIter s1.heap.objs.size yl 0 := by
    subst ho
    exact ⟨_, Heap.get?_push_size _ rfl, rfl, rfl⟩
  have hylt : yl < s1.heap.objs.size := by
    obtain ⟨_, e, _⟩ := _root_.id hIL
    exact Heap.lt_size e
  have hPs : s1.heap.get? P = some { cls := .none, data := .fields ps } := I1.hok P _ hP
  have hPlt : P < s1.heap.objs.size := Heap.lt_size hPs
  have hP2 : (s1.heap.push o).get? P = some { cls := .none, data := .fields ps } := Heap.get?_push_of_some _ hPs
  have cd : PySem.W.CodeHd (s1.heap.push o) c P := TB.code.keeps fun b u e => Heap.get?_push_of_some _ (I1.bk b u e)
  have lim2 : (s1.heap.push o).NoLimit := I1.nolimit.push o
  have cont : ∀ (code : Value) (h3 : Heap) (tk : Nat) (ps' : Array Value), Heap.ExtBut P (s1.heap.push o) h3 → (s1.heap.push o).objs.size ≤ h3.objs.size → h3.get? P = some { cls := .none, data := .fields ps' } → (∃ more, ps' = ps ++ more) → TriplesOk ps'.toList →
      wpAny (model X.prog X.w) X.A (builtinsFor X.env.globals X.env.builtins) (fun bi s₄ =>
        ∃ Ia fp wr n₀ Pf St₀ pz F, Value.ref s1.heap.objs.size = .ref Ia ∧ (∀ A' : Around, A'.handled = none → Walks X.prog X.w A' Ia fp wr n₀ Pf St₀) ∧ St₀ 0 s₄.heap ∧ (∀ b ∈ fp, b < s₄.heap.objs.size) ∧ s₄.heap.NoLimit ∧ cStatics ∉ wr ∧
          (∀ href : Heap, (∀ b o, s₄.heap.get? b = some o → href.get? b = some o) →
            QuietGenD X.prog X.w (genEnv gsc (cloFrom X.env.cells gsc.names []) s₄.heap.objs.size code bi X.env) "number" [] (isE p1 p2 p3 p4) (List.range s₄.heap.objs.size) wr Pf pz F href (X.A.depth + 1) (X.A.units + 8)) ∧
          (∀ a h₅ tk gs, gs.bare = true → s₄.heap.objs.size < a → h₅.objs.size = a + 1 → (∀ b o, s₄.heap.get? b = some o → h₅.get? b = some o) →
            WalksS X.prog X.w X.A.in4 a (a :: s₄.heap.objs.size :: List.range s₄.heap.objs.size) (s₄.heap.objs.size :: wr) (GenOnlyQ s₄.gens.size) (passing pz n₀ 0).length
              (fun j y => ∃ i, (passing pz n₀ 0)[j]? = some i ∧ F i y) (GenAt X.prog X.w X.A.in4 a s₄.gens.size s₄.heap.objs.size (List.range s₄.heap.objs.size) wr pz n₀ F) →
            GenAt X.prog X.w X.A.in4 a s₄.gens.size s₄.heap.objs.size (List.range s₄.heap.objs.size) wr pz n₀ F 0 { s₄ with gens := s₄.gens.push gs, toks := tk, heap := h₅ } →
            Q' (.ref a) { s₄ with gens := s₄.gens.push gs, toks := tk, heap := h₅ })) X.xe { s1 with heap := h3, toks := tk } := by
    intro code h3 tk ps' hx hsz hP3 hmore ht3
    obtain ⟨bm, ob, e1, e2, e3, e4, e5, e6, e7, e8⟩ := TB.bm
    have hcP : cStatics ≠ P := fun e => by
      obtain ⟨_, hns, _⟩ := I1.nolimit
      obtain ⟨o', es, ep, ho, hd, _⟩ := hns
      rw [e, hPs] at ho
      cases ho
      cases hd
    have hcl : cStatics < s1.heap.objs.size := let ⟨_, hns, _⟩ := I1.nolimit; hns.lt
    have sz2 : (s1.heap.push o).objs.size = s1.heap.objs.size + 1 := Heap.size_push ..
    have keep3 : ∀ b u, b ≠ P → s1.heap.get? b = some u → h3.get? b = some u := fun b u hb e => hx b u hb (Heap.get?_push_of_some _ e)
    refine wpAny_builtinsFor (m := X.mg) (by rw [I1.ok.glob]; exact ((I1.mod.glob.keeps I1.bk).push o).extBut hx TB.gP) e1 e2 (keep3 _ _ e4 (I1.bk _ _ e5)) e6 e7 e8 ?_
    have hylP : yl ≠ P := fun z => by
      obtain ⟨_, e, hc1, _, hd1⟩ := _root_.id hIL
      rw [z, hPs] at e
      cases e
      cases hd1
    have hIL3 : h3.IsList yl its.toArray := by
      obtain ⟨ob, e, r⟩ := _root_.id hIL
      exact ⟨ob, keep3 _ _ hylP e, r⟩
    have hItr3 : h3.IsListIter s1.heap.objs.size yl 0 := hitr.at fun u e => hx _ u (Nat.ne_of_gt hPlt) e
    refine ⟨s1.heap.objs.size, [s1.heap.objs.size, yl], [s1.heap.objs.size], its.toArray.size, (fun i v => its.toArray[i]? = some v), (fun i h => h.IsListIter s1.heap.objs.size yl i ∧ h.IsList yl its.toArray), (fun _ => true),
      (fun i y => y = .bool (bs.getD i false)), rfl, (fun A' hA => Walks.list hA _ _ (Nat.ne_of_lt hylt) _), ⟨hItr3, hIL3⟩, ?_, lim2.extBut hx hcP, ?_, ?_, ?_⟩
    · intro b hb
      rcases List.mem_cons.mp hb with z | z
      · rw [z]
        show s1.heap.objs.size < h3.objs.size
        omega
      · rcases List.mem_cons.mp z with z | z
        · rw [z]
          have e9 : s1.heap.objs.size ≤ h3.objs.size := by omega
          exact Nat.lt_of_lt_of_le hylt e9
        · cases z
    · intro z
      rcases List.mem_cons.mp z with z | z
      · exact Nat.ne_of_lt hcl z
      · cases z
    · intro href hhref
      refine ⟨fun A' E' i v s₂ m₂ hA hD hU hPv hn hm hk => ?_, fun A' E' i v s₂ m₂ hA hD hU hPv hp hn hm hk => ?_⟩
      · simp only [List.forIn_nil]
        exact wpAny_pure ⟨rfl, GxR.keeps_refl _⟩
      · obtain ⟨a, ha, ra⟩ := hat i v hPv
        have hilt : i < bs.length := by rw [hbl]; exact (List.getElem?_eq_some_iff.mp ha).1
        have hbi : bs[i]? = some (bs.getD i false) := by
          rw [List.getD_eq_getElem?_getD, List.getElem?_eq_getElem hilt]
          rfl
        obtain ⟨T, hT, hw⟩ := hbs i a _ ha hbi
        -- what stood at s1 stands at s₂
        have old : ∀ b u, b ≠ P → s1.heap.get? b = some u → s₂.heap.get? b = some u := fun b u hb e => by
          have h9 := keep3 b u hb e
          have hb1 : b < s1.heap.objs.size := Heap.lt_size e
          refine hk b (List.mem_range.mpr (Heap.lt_size h9)) (fun z => ?_) u (hhref b u h9)
          rcases List.mem_cons.mp z with z | z
          · rw [z] at hb1
            exact Nat.lt_irrefl _ hb1
          · cases z
        have bsB : ∀ b u, X.base.get? b = some u → s₂.heap.get? b = some u := fun b u e => by
          obtain ⟨h1, h2⟩ := I1.bs b u e
          exact old b u (fun z => by rw [z, hP] at h2; cases h2) h1
        have tyS : s1.TypeIs v T := hT.is I1 ra
        have hcell2 : s₂.heap.IsCell cl0 (some (.int m tk0)) := by
          obtain ⟨oc, h1, h2⟩ := hcell
          exact ⟨oc, old _ _ hclP h1, h2⟩
        have hkE : ∀ {cl : List (Str × Addr)} {C : Addr} {code : Value} {bi : Addr}, (genEnv gsc cl C code bi X.env).scope.kind = .function := rfl
        refine wpAny_Call_Name_kw (Calls.Name_function_global rfl (by rfl) (Calls.loadGlobal_global (mg := X.mg) (by
          show s₂.heap.Ns X.env.globals X.mg
          rw [I1.ok.glob]
          exact I1.mod.glob.keeps bsB) gF ?_) (by decide))
        refine PySem.W.callWith_K (h₀ := X.base) I1.ok.mod.kin F.kp ?_ (by rfl) (by rfl)
        refine Calls.spliced_cons (wpAny_Name (wpAny_loadName_local rfl (by rfl) hn hm ?_) (by decide))
        refine Calls.spliced_cons (wpAny_Name (wpAny_loadName_free (c := cl0) rfl (by rfl) (by
          show (cloFrom X.env.cells gsc.names []).lookup ("least" : Str) = _
          rw [ecl]
          rfl) hcell2 ?_ (by decide)) (by decide))
        refine Calls.spliced_nil ⟨I1.ok.mod.kin.keeps bsB, ?_⟩
        refine isw_call F I1.ok.mod mt mi (by have := hr.dp; omega) bsB hT.nb ?_ (fun s' k9 => typeIs_keep tyS hPs fun b u hb e => k9 b u (old b u hb e)) fun h' k9 kk => ⟨rfl, h', k9, rfl, kk⟩
        rcases hw with ⟨n, rfl, eb⟩ | ⟨ne, eb⟩
        · obtain ⟨t', rfl⟩ := (show ∃ t', v = Value.int n t' from ra)
          cases hT
          exact .inl ⟨n, t', rfl, rfl, eb⟩
        · exact .inr ⟨ne, eb⟩
    · intro g h5 tk5 gs hgb hag hsz5 hk5 W5 hgat
      simp only [GxR.passing_true, List.length_range] at W5
      have hn5 : its.toArray.size = bs.length := by rw [List.size_toArray, hlen, hbl]
      rw [hn5] at W5 hgat
      refine hQ bs H1 g _ q1 ⟨_, _, _, _, _, W5.in4_1, hgat, ?_, fun s' hm => ?_⟩
      · intro j y sj Qj Ej hy hQj
        obtain ⟨i, hij, rfl⟩ := hy
        obtain ⟨hj, ej⟩ := List.getElem?_eq_some_iff.mp hij
        rw [List.getElem_range] at ej
        subst ej
        exact wpAny_truthy_bool hQj
      · obtain ⟨more, em⟩ := hmore
        have nwr : ∀ b u, s1.heap.get? b = some u → b ∉ h3.objs.size :: [s1.heap.objs.size] := fun b u e hb => by
          have hl := Heap.lt_size e
          rcases List.mem_cons.mp hb with z | z
          · rw [z] at hl
            have h9 : (h3.objs.size : Nat) < s1.heap.objs.size := hl
            omega
          · rcases List.mem_cons.mp z with z | z
            · rw [z] at hl
              exact Nat.lt_irrefl _ hl
            · cases z
        have J := GxR.inv_tab (more := more) (h' := s'.heap) (g' := s'.gens) (d' := s'.drawn) (t' := s'.toks) I1 hP (fun b u hb e => hm.heap b u (nwr b u e) (hk5 b u (keep3 b u hb e)))
          (by rw [← em]; exact hm.heap P _ (nwr P _ hPs) (hk5 P _ hP3)) (AllBare.movedS (I1.bare.push hgb) hm)
        rw [GxR.sh_eta s1 s' hm.os] at J
        refine ⟨upd H1 P (.tbl (ps ++ more)), ⟨⟨ps ++ more, upd_same, by rw [← em]; exact ht3⟩, fun b hb => upd_ne hb⟩, J⟩
  refine ⟨lim2, ?_⟩
  cases hf : codeAmong gpos ps.toList with
  | none =>
    refine wpAny_genexprCodeX hcode (cd.code hP2 ht) (cd.tab hP2) hf fun c' h' tk hx hge hlt hco' _ htab' _ => ?_
    obtain ⟨o1, vs, f1, tf, fl, tg, inF, tx, tt, op, _, _, _, _, _, _, _, _, _, htr, _⟩ := hco'
    exact cont _ h' tk _ hx (Nat.le_trans hge (Nat.le_of_lt hlt)) htab'.2 ⟨_, rfl⟩ htr
  | some cv =>
    refine wpAny_genexprCode_hit hcode (cd.code hP2 ht) hf ?_
    exact cont cv (s1.heap.push o) s1.toks ps (Heap.ExtBut.refl _ _) (Nat.le_refl _) hP2 ⟨#[], by simp⟩ ht

/-- all(is_whole(number, least) for number in e); behind it the def's table may have grown -/
def tAllW (K : PySem.W.Frag) (P : Addr) (te : TE) : TE := fun σ H Q => ∃ m, σ[1]? = some (some (.int m)) ∧ te σ H fun v H1 => ∃ (yl : Addr) (vs : List V) (bs : List Bool), v = .ref yl ∧ SqL K H1 yl vs ∧ bs.length = vs.length ∧
  (∀ (i : Nat) (v : V) (b : Bool), vs[i]? = some v → bs[i]? = some b → WholeIs K H1 m v b) ∧ GxR.TabG H1 P ∧ ∀ H2, GxR.Tabbed P H1 H2 → Q (.bl (bs.all id)) H2
theorem all_range (bs : List Bool) : (List.range bs.length).all (fun j => bs.getD j false) = bs.all id := by
  rw [Bool.eq_iff_iff, List.all_eq_true, List.all_eq_true]
  constructor
  · intro h b hb
    obtain ⟨j, hj, e⟩ := List.getElem_of_mem hb
    have q := h j (List.mem_range.mpr hj)
    rw [List.getD_eq_getElem?_getD, List.getElem?_eq_getElem hj, e] at q
    exact q
  · intro h j hj
    have hj' := List.mem_range.mp hj
    show bs.getD j false = true
    rw [List.getD_eq_getElem?_getD, List.getElem?_eq_getElem hj']
    exact h _ (List.getElem_mem hj')
theorem pe_allW {c P f : Addr} {fd : FuncData} {iter : Expr} {px p1 p2 p3 p4 p pos gpos : Pos} {te : TE} {k : Nat}
    (hr : Room (k + 2) X.A) (hg : Gl X "all") (hm : X.mg "all" = none) (TB : GxR.TabB X.base X.mg c P) (hcode : X.env.code = .ref c) (hi : PE X iter te)
    (F : Fun X.K "is_whole" "is_whole" sIsWhole f fd) (gF : X.mg "is_whole" = some (.ref f)) (mt : X.mg "type" = none) (mi : X.mg "int" = none)
    (hN : X.N[1]? = some ("least" : Str)) (hc : X.env.kindOf "least" = some .cell)
    (hs : ∀ v, genFold iter X.env v = pure v) :
    PE X (.Call (.Name "all" p) [.GeneratorExp (isE p1 p2 p3 p4) [⟨.Name "number" px, iter, [], 0⟩] gsc gpos] [] pos) (tAllW X.K P te) := by
  have he : starEach [.GeneratorExp (isE p1 p2 p3 p4) [⟨.Name "number" px, iter, [], 0⟩] gsc gpos] X.env = (false, eval (.GeneratorExp (isE p1 p2 p3 p4) [⟨.Name "number" px, iter, [], 0⟩] gsc gpos) X.env) :: starEach [] X.env := by rfl
  refine ⟨fun pins s σ H Q I h => ?_⟩
  obtain ⟨m, hσ, h⟩ := h
  refine wpAny_Call_Name_kw (ld_blt (u := .builtin "all") I hg hm (by decide +kernel) ?_)
  refine PyProof.Rows.callWith_builtin1 ?_ he (by rfl)
  rw [he]
  show wpAny _ _ (spliced ((false, eval (.GeneratorExp (isE p1 p2 p3 p4) [⟨.Name "number" px, iter, [], 0⟩] gsc gpos) X.env) :: backTo pos (starEach [] X.env))) _ _ s
  refine Calls.spliced_cons (gen_lstW (R := fun bs H1 => ∀ H2, GxR.Tabbed P H1 H2 → Q (.bl (bs.all id)) H2) hr TB hcode hi F gF mt mi hN hc hσ hs I h fun bs H1 g s5 hR hG => ?_)
  obtain ⟨fp, wr, G, F', St, W, hst, htr, hI⟩ := hG
  refine Calls.spliced_nil ?_
  refine call_all_walkS (W.self 0 _ _ _ hst ⟨g, fp, wr, G, _, F', St, _, rfl, W, hst, htr, fun s' hmv => ?_⟩)
  obtain ⟨H2, hT, J⟩ := hI s' hmv
  refine ⟨.bl _, H2, J, rfl, ?_⟩
  rw [all_range bs]
  exact hR H2 hT
end
end TA
set_option Elab.async false
set_option linter.all false
set_option maxRecDepth 100000
set_option maxHeartbeats 4000000
namespace TA
open PySem PySem.Spec PyProof.Rows L2
/-! ### what was held is held, tables may have grown -/
def isTbl : HO → Bool
  | .tbl _ => true
  | _ => false
def Sm (H H' : Hp) : Prop := (∀ b o, isTbl o = false → H b = some o → H' b = some o) ∧ ∀ b ps, H b = some (.tbl ps) → ∃ ps', H' b = some (.tbl ps') ∧ (TriplesOk ps.toList → TriplesOk ps'.toList)
theorem Sm.refl (H : Hp) : Sm H H := ⟨fun _ _ _ h => h, fun _ ps h => ⟨ps, h, fun z => z⟩⟩
theorem Sm.trans {H H1 H2 : Hp} (a : Sm H H1) (b : Sm H1 H2) : Sm H H2 := ⟨fun c o n h => b.1 c o n (a.1 c o n h), fun c ps h => by
  obtain ⟨p1, h1, t1⟩ := a.2 c ps h
  obtain ⟨p2, h2, t2⟩ := b.2 c p1 h1
  exact ⟨p2, h2, fun z => t2 (t1 z)⟩⟩
theorem Sm.of {H H' : Hp} (a : Same H H') : Sm H H' := ⟨fun b o _ h => a b o h, fun b ps h => ⟨ps, a b _ h, fun z => z⟩⟩
theorem Sm.free {H H' : Hp} (e : Sm H H') {l : Addr} (h : H' l = Option.none) : H l = Option.none := by
  cases q : H l with
  | none => rfl
  | some o =>
    cases hb : isTbl o with
    | false =>
      rw [e.1 l o hb q] at h
      cases h
    | true =>
      cases o with
      | tbl ps =>
        obtain ⟨p1, h1, _⟩ := e.2 l ps q
        rw [h1] at h
        cases h
      | _ => cases hb
theorem Sm.lst {H H' : Hp} (e : Sm H H') {a : Addr} {xs : List V} (h : H a = some (.lst xs)) : H' a = some (.lst xs) := e.1 a _ rfl h
theorem Sm.tup {H H' : Hp} (e : Sm H H') {a : Addr} {xs : List V} (h : H a = some (.tup xs)) : H' a = some (.tup xs) := e.1 a _ rfl h
theorem Sm.seq {K : PySem.W.Frag} {H H' : Hp} {a : Addr} {xs : List V} (e : Sm H H') (h : SqL K H a xs) : SqL K H' a xs := by
  rcases h with (h | ⟨o, h⟩) | h
  · exact .inl (.inl (e.1 _ _ rfl h))
  · exact .inl (.inr ⟨o, e.1 _ _ rfl h⟩)
  · exact .inr h
theorem Sm.seqT {K : PySem.W.Frag} {H H' : Hp} {a : Addr} {xs : List V} (e : Sm H H') (h : SqT K H a xs) : SqT K H' a xs := by
  rcases h with (h | ⟨o, h⟩) | h
  · exact .inl (.inl (e.1 _ _ rfl h))
  · exact .inl (.inr ⟨o, e.1 _ _ rfl h⟩)
  · exact .inr h
theorem Sm.tab {H H' : Hp} (e : Sm H H') {P : Addr} (h : GxR.TabG H P) : GxR.TabG H' P := by
  obtain ⟨ps, h1, h2⟩ := h
  obtain ⟨p1, h3, h4⟩ := e.2 P ps h1
  exact ⟨p1, h3, h4 h2⟩
theorem Sm.tabbed {H H' : Hp} {P : Addr} (h0 : GxR.TabG H P) (h : GxR.Tabbed P H H') : Sm H H' := by
  obtain ⟨ps, e0, _⟩ := h0
  obtain ⟨⟨p1, e1, t1⟩, k⟩ := h
  refine ⟨fun b o n hb => ?_, fun b q hb => ?_⟩
  · rw [k b (fun z => by rw [z, e0] at hb; cases hb; cases n)]
    exact hb
  · by_cases z : b = P
    · rw [z] at hb ⊢
      exact ⟨p1, e1, fun _ => t1⟩
    · exact ⟨q, by rw [k b z]; exact hb, fun y => y⟩
theorem Sm.new {H H' : Hp} {p : Addr} {o : HO} (s : Sm H H') (h : H p = none) : Sm H (upd H' p o) := ⟨fun b x n e => by
  rw [upd_ne (ne_of_none e h)]
  exact s.1 b x n e, fun b ps e => by
  rw [upd_ne (ne_of_none e h)]
  exact s.2 b ps e⟩
theorem Sm.upd {H : Hp} {p : Addr} {o : HO} (h : H p = none) : Sm H (upd H p o) := Sm.new (Sm.refl H) h
theorem Sm.dK {H H' : Hp} (e : Sm H H') {a : Addr} {xs} (h : H a = some (.dK xs)) : H' a = some (.dK xs) := e.1 a _ rfl h
theorem Sm.tyB {K : PySem.W.Frag} {H H' : Hp} {v : V} {T : String} (e : Sm H H') (h : TyB K H v T) : TyB K H' v T := by
  cases h with
  | non => exact .non
  | bl b => exact .bl b
  | int i => exact .int i
  | str x => exact .str x
  | byt b => exact .byt b
  | lst h => exact .lst (e.seq h)
  | tup h => exact .tup (e.seqT h)
  | dK h => exact .dK (e.dK h)
/-! ### a def whose code object is known -/
structure FunC (K : PySem.W.Frag) (x qual : Str) (st : Stmt) (f : Addr) (fd : FuncData) (c : Addr) : Prop where
  ex : ∃ (oc : Value) (od : Option Addr) (kV doc pm : Value) (an : Option Addr) (ct : Value) (osl : Array (Option Value)),
    fd = PySem.W.fnOf x qual (defArgs st) (defBody st) (defScope st) .none kV doc pm an (.ref c) ct ∧ K.lookup f = some ⟨oc, od, .func fd, osl⟩ ∧ PySem.W.codeIn K (.ref c) qual = true
  kp : PySem.W.keepIn K (.ref f) = true
theorem FunC.fn {K : PySem.W.Frag} {x qual : Str} {st : Stmt} {f : Addr} {fd : FuncData} {c : Addr} (F : FunC K x qual st f fd c) : Fun K x qual st f fd := by
  obtain ⟨oc, od, kV, doc, pm, an, ct, osl, h⟩ := F.ex
  exact ⟨⟨oc, od, kV, doc, pm, an, .ref c, ct, osl, h⟩, F.kp⟩
theorem FunC.ok {P : Program} {w : World} {K : PySem.W.Frag} {mg : Str → Option Value} {base : Heap} {x qual : Str} {st : Stmt} {f c : Addr} {fd : FuncData} {N ps : List Str} {k : Nat} {sp : Sp} (F : FunC K x qual st f fd c) (S : FnScope N ps (defScope st)) (len : ∀ vs H Q E, sp vs H Q E → vs.length = ps.length)
    (hbody : ∀ (A : Around) (outer : List Env) (s : Shared) (H : Hp) (vs : List V) (Q : VK) (E : XK), Room k (A.deeper (envOfC qual (defScope st) s.heap.objs.size f (.ref c))) → sp vs H Q E →
      ∃ t, PSs (cxOf CX0 P w K mg base N qual (defScope st) f (.ref c) A outer s H E).nox (defBody st) t ∧ t { nx := fun _ H' => Q .non H', rt := Q } (start N vs) H) : FnOk P w K mg base CX0 (k + 1) f fd ps sp := by
  obtain ⟨oc, od, kV, doc, pm, an, ct, osl, rfl, lk, hcd⟩ := F.ex
  refine fn_of lk hcd S len fun A outer s H vs Q E hr hsp => ?_
  obtain ⟨t, h, q⟩ := hbody A outer s H vs Q E hr hsp
  exact ⟨t, h.nox, q⟩
section
variable {P : Program} {w : World} {K : PySem.W.Frag} {mg : Str → Option Value} {base : Heap}
/-! ### is_whole_list -/
def spIsWholeList (K : PySem.W.Frag) (T : Addr) : Sp := fun vs H Q _ => ∃ v m, vs = [v, .int m] ∧ GxR.TabG H T ∧ ((∃ ty, TyB K H v ty ∧ ty ≠ "list" ∧ Q (.bl false) H) ∨
  ∃ (a : Addr) (xs : List V) (bs : List Bool), v = .ref a ∧ SqL K H a xs ∧ bs.length = xs.length ∧ (∀ (i : Nat) (y : V) (b : Bool), xs[i]? = some y → bs[i]? = some b → WholeIs K H m y b) ∧ ∀ H', GxR.Tabbed T H H' → Q (.bl (bs.all id)) H')
theorem scIsWholeList : FnScope ["numbers", "least"] ["numbers", "least"] (defScope sIsWholeList) := ⟨rfl, rfl, rfl, by decide +kernel, rfl, by decide +kernel, by decide +kernel⟩
theorem ok_is_whole_list {f c T fW : Addr} {fd fdW : FuncData} (F : FunC K "is_whole_list" "is_whole_list" sIsWholeList f fd c) (TB : GxR.TabB base mg c T) (FW : Fun K "is_whole" "is_whole" sIsWhole fW fdW) (gW : mg "is_whole" = some (.ref fW))
    (mt : mg "type" = none) (mi : mg "int" = none) (ml : mg "list" = none) (ma : mg "all" = none) :
    FnOk P w K mg base CX0 3 f fd ["numbers", "least"] (spIsWholeList K T) := by
  refine F.ok scIsWholeList (fun vs H Q E h => ?_) (fun A outer s H vs Q E hr h => ?_)
  · obtain ⟨v, m, rfl, _⟩ := h
    rfl
  · obtain ⟨v, m, rfl, hT, h⟩ := h
    refine ⟨_, pss_cons (ps_if (pt_cmpR op_isNotTy (pe_callTy call_type1 (by rfl) mt (by decide +kernel) (pa_cons (pv 0) pa_nil)) (pe_bltn (v := .ty "list") (by rfl) ml (by decide +kernel) rfl) (nomark _)) (pss_one (ps_ret pe_bl)) pss_nil)
      (pss_one (ps_ret (pe_allW (k := 0) hr (by rfl) ma TB rfl (pv 0) FW gW mt mi rfl rfl (fun _ => rfl)))), ?_⟩
    rcases h with ⟨ty, hty, ne, q⟩ | ⟨a, xs, bs, rfl, hL, hlen, hbs, q⟩
    · refine ⟨v, rfl, v, ty, rfl, hty, ty, "list", rfl, rfl, _, rfl, ?_⟩
      rw [decide_eq_false ne]
      exact iteT q
    · refine ⟨_, rfl, _, "list", rfl, .lst hL, _, _, rfl, rfl, _, rfl, ?_⟩
      exact iteF ⟨m, rfl, _, rfl, a, xs, bs, rfl, hL, hlen, hbs, hT, q⟩
/-- of ints -/
abbrev wlb (m : Int) (ns : List Int) : List Bool := ns.map fun n => decide (m ≤ n)
theorem wl_len {m : Int} {ns : List Int} : (wlb m ns).length = (ns.map V.int).length := by rw [List.length_map, List.length_map]
theorem wl_each {K : PySem.W.Frag} {H : Hp} {m : Int} {ns : List Int} : ∀ (i : Nat) (y : V) (b : Bool), (ns.map V.int)[i]? = some y → (wlb m ns)[i]? = some b → WholeIs K H m y b := fun i y b hy hb => by
  obtain ⟨u, hu, rfl⟩ := item_of hy
  rw [List.getElem?_map, hu] at hb
  cases hb
  exact ⟨"int", .int u, .inl ⟨u, rfl, rfl⟩⟩
theorem wl_all {m : Int} {ns : List Int} : (wlb m ns).all id = ns.all fun n => decide (m ≤ n) := by
  rw [List.all_map]
  rfl
theorem wl_true {m : Int} {ns : List Int} (h : ∀ n ∈ ns, m ≤ n) : (wlb m ns).all id = true := by
  rw [wl_all]
  exact List.all_eq_true.mpr fun n hn => decide_eq_true (h n hn)
end
end TA
set_option Elab.async false
set_option linter.all false
set_option maxRecDepth 100000
set_option maxHeartbeats 4000000
namespace TA
open PySem PySem.Spec PyProof.Rows L2
/-- the sum's last part is more than the limit, or there is none -/
def lostB (ns : List Int) (l : Int) : Bool := match ns.getLast? with
  | none => true
  | some z => decide (l < z)
theorem lostB_nil (l : Int) : lostB [] l = true := rfl
theorem lostB_snoc (ns : List Int) (z l : Int) : lostB (ns ++ [z]) l = decide (l < z) := by
  unfold lostB
  rw [List.getLast?_append]
  rfl
theorem cases_last (ns : List Int) : ns = [] ∨ ∃ m z, ns = m ++ [z] := by
  rcases List.eq_nil_or_concat ns with h | ⟨m, z, h⟩
  · exact .inl h
  · exact .inr ⟨m, z, by rw [h, List.concat_eq_append]⟩
/-- a class of one field -/
structure One (K : PySem.W.Frag) (mg : Str → Option Value) (nm fld : Str) (C fI : Addr) : Prop where
  cl : Cls K C
  nF : NoAttr K C fld
  mgC : mg nm = some (.ref C)
  mkC : Mk K C fI
abbrev lostF (a : Addr) : List (Str × V) := [(("parts" : Str), V.ref a)]
abbrev wonF (t : Int) : List (Str × V) := [(("taking" : Str), V.int t)]
section
variable {P : Program} {w : World} {K : PySem.W.Frag} {mg : Str → Option Value} {base : Heap}
/-! ### is_lost -/
def spIsLost (K : PySem.W.Frag) : Sp := fun vs H Q _ => ∃ (a : Addr) (ns : List Int) (l : Int), vs = [.ref a, .int l] ∧ SqL K H a (ns.map V.int) ∧ Q (.bl (lostB ns l)) H
theorem scIsLost : FnScope ["parts", "limit"] ["parts", "limit"] (defScope sIsLost) := ⟨rfl, rfl, rfl, by decide +kernel, rfl, by decide +kernel, by decide +kernel⟩
theorem ok_is_lost {f : Addr} {fd : FuncData} (F : Fun K "is_lost" "is_lost" sIsLost f fd) : FnOk P w K mg base CX0 1 f fd ["parts", "limit"] (spIsLost K) := by
  refine F.ok scIsLost (fun vs H Q E h => ?_) (fun cdv A outer s H vs Q E hr h => ?_)
  · obtain ⟨a, ns, l, rfl, _⟩ := h
    rfl
  · obtain ⟨a, ns, l, rfl, hL, q⟩ := h
    refine ⟨_, pss_one (ps_ret (pe_or (pe_notT (pv 0)) (pe_one (pe_cmpR op_gt (pe_ix ix_list (pv 0) (pe_un un_neg pe_int) (fun _ _ => rfl)) (pv 1) (nomark _))))), ?_⟩
    refine ⟨_, rfl, _, .inl ⟨_, hL, rfl⟩, _, rfl, ?_⟩
    rcases cases_last ns with rfl | ⟨m, z, rfl⟩
    · exact iteT q
    · have e : ((m ++ [z]).map V.int).isEmpty = false := by
        rw [List.map_append, List.isEmpty_eq_false_iff]
        simp
      rw [e]
      refine iteF ⟨_, rfl, 1, rfl, a, _, _, _, rfl, rfl, hL, vlast rfl, _, rfl, _, _, rfl, rfl, ?_⟩
      rw [lostB_snoc] at q
      exact q
/-! ### Lost(parts), Won(taking) -/
def spLostInit (K : PySem.W.Frag) (C : Addr) : Sp := fun vs H Q _ => ∃ (p dx a : Addr) (ns : List V), vs = [.ref p, .ref a] ∧ SqL K H a ns ∧ H p = some (.ins C dx []) ∧ ∀ l, H l = none → Q .non (upd (upd H l (.lst ns)) p (.ins C dx (lostF l)))
theorem scLostInit : FnScope ["self", "parts"] ["self", "parts"] (defScope sLostInit) := ⟨rfl, rfl, rfl, by decide +kernel, rfl, by decide +kernel, by decide +kernel⟩
theorem ok_lost_init {f C : Addr} {fd : FuncData} (F : Fun K "__init__" "Lost.__init__" sLostInit f fd) (O : One K mg "Lost" "parts" C f) (ml : mg "list" = none) : FnOk P w K mg base CX0 1 f fd ["self", "parts"] (spLostInit K C) := by
  refine F.ok scLostInit (fun vs H Q E h => ?_) (fun cdv A outer s H vs Q E hr h => ?_)
  · obtain ⟨p, dx, a, ns, rfl, _⟩ := h
    rfl
  · obtain ⟨p, dx, a, ns, rfl, hL, hp, q⟩ := h
    refine ⟨_, pss_one (ps_fld (pv 0) (pe_callTy call_list_of (by rfl) ml (by decide +kernel) (pa_cons (pv 1) pa_nil)) rfl), ?_⟩
    refine ⟨_, rfl, a, _, rfl, .inl hL, fun l nl => ?_⟩
    have npl : p ≠ l := ne_of_none hp nl
    exact ⟨_, rfl, p, C, dx, [], rfl, by rw [upd_ne npl]; exact hp, O.cl, O.nF, by show 0 < 1000; decide, q l nl⟩
def spWonInit (C : Addr) : Sp := fun vs H Q _ => ∃ (p dx : Addr) (t : Int), vs = [.ref p, .int t] ∧ H p = some (.ins C dx []) ∧ Q .non (upd H p (.ins C dx (wonF t)))
theorem scWonInit : FnScope ["self", "taking"] ["self", "taking"] (defScope sWonInit) := ⟨rfl, rfl, rfl, by decide +kernel, rfl, by decide +kernel, by decide +kernel⟩
theorem ok_won_init {f C : Addr} {fd : FuncData} (F : Fun K "__init__" "Won.__init__" sWonInit f fd) (O : One K mg "Won" "taking" C f) : FnOk P w K mg base CX0 1 f fd ["self", "taking"] (spWonInit C) := by
  refine F.ok scWonInit (fun vs H Q E h => ?_) (fun cdv A outer s H vs Q E hr h => ?_)
  · obtain ⟨p, dx, t, rfl, _⟩ := h
    rfl
  · obtain ⟨p, dx, t, rfl, hp, q⟩ := h
    exact ⟨_, pss_one (ps_fld (pv 0) (pv 1) rfl), _, rfl, _, rfl, p, C, dx, [], rfl, hp, O.cl, O.nF, by show 0 < 1000; decide, q⟩
/-! ### left_by -/
def spLeftBy : Sp := fun vs H Q _ => ∃ (f h t : Int), vs = [.int f, .int h, .int t] ∧ 1 ≤ f ∧ f ≤ 30 ∧ ∀ p, H p = none → Q (.ref p) (upd H p (.tup [.int (h - t), .int (f * t)]))
theorem scLeftBy : FnScope ["factor", "heap", "taking"] ["factor", "heap", "taking"] (defScope sLeftBy) := ⟨rfl, rfl, rfl, by decide +kernel, rfl, by decide +kernel, by decide +kernel⟩
theorem ok_left_by {f : Addr} {fd : FuncData} (F : Fun K "left_by" "left_by" sLeftBy f fd) : FnOk P w K mg base CX0 1 f fd ["factor", "heap", "taking"] spLeftBy := by
  refine F.ok scLeftBy (fun vs H Q E h => ?_) (fun cdv A outer s H vs Q E hr h => ?_)
  · obtain ⟨f, h, t, rfl, _⟩ := h
    rfl
  · obtain ⟨f, h, t, rfl, h1, h30, q⟩ := h
    exact ⟨_, pss_one (ps_ret (pe_tup (pa_cons (pe_op op_sub (pv 1) (pv 2)) (pa_cons (pe_op op_mul (pv 0) (pv 2)) pa_nil)))), _, rfl, _, rfl, h, t, rfl, rfl, _, rfl, _, rfl, f, t, rfl, rfl, .inl (f_small h1 h30), (by show 2 ≤ sizeLine; decide), q⟩
end
end TA
set_option Elab.async false
set_option linter.all false
set_option maxRecDepth 100000
set_option maxHeartbeats 4000000
namespace TA
open PySem PySem.Spec PyProof.Rows L2
def takeB (h l t : Int) : Bool := decide (1 ≤ t) && (decide (t ≤ h) && decide (t ≤ l))
def lostShows (f h l : Int) (ns : List Int) : Bool := decide (ns = parts f h) && lostB ns l
def wonShows (f h l t : Int) : Bool := takeB h l t && lostB (parts f (h - t)) (f * t)
section
variable {P : Program} {w : World} {K : PySem.W.Frag} {mg : Str → Option Value} {base : Heap}
/-! ### is_taking, of whole numbers -/
def spIsTaking : Sp := fun vs H Q _ => ∃ (h l t : Int), vs = [.int h, .int l, .int t] ∧ Q (.bl (takeB h l t)) H
theorem scIsTaking : FnScope ["heap", "limit", "taking"] ["heap", "limit", "taking"] (defScope sIsTaking) := ⟨rfl, rfl, rfl, by decide +kernel, rfl, by decide +kernel, by decide +kernel⟩
theorem ok_is_taking {f fW : Addr} {fd fdW : FuncData} (F : Fun K "is_taking" "is_taking" sIsTaking f fd) (FW : Fun K "is_whole" "is_whole" sIsWhole fW fdW) (bW : Binds K fdW ["value", "least"] []) (gW : mg "is_whole" = some (.ref fW)) (mt : mg "type" = none) (mi : mg "int" = none) :
    FnOk P w K mg base CX0 2 f fd ["heap", "limit", "taking"] spIsTaking := by
  have GW : FnOk P w K mg base CX0 1 fW fdW ["value", "least"] (spIsWhole K) := ok_is_whole FW mt mi
  refine F.ok scIsTaking (fun vs H Q E h => ?_) (fun cdv A outer s H vs Q E hr h => ?_)
  · obtain ⟨h, l, t, rfl, _⟩ := h
    rfl
  · obtain ⟨h, l, t, rfl, q⟩ := h
    refine ⟨_, pss_one (ps_ret (pe_and (pe_call GW hr (by rfl) gW FW.kp bW .nil pass0 (pa_cons (pv 2) (pa_cons pe_int pa_nil))) (pe_and (pe_cmpR op_le (pv 2) (pv 0) (nomark _)) (pe_one (pe_cmpR op_le (pv 2) (pv 1) (nomark _)))))), ?_⟩
    refine ⟨_, rfl, _, _, _, rfl, .int t, .inl ⟨t, rfl, _, rfl, ?_⟩⟩
    unfold takeB at q
    by_cases c1 : 1 ≤ t
    · rw [decide_eq_true c1] at q ⊢
      refine iteT ⟨_, rfl, _, rfl, _, _, rfl, rfl, _, rfl, ?_⟩
      by_cases c2 : t ≤ h
      · rw [decide_eq_true c2] at q ⊢
        exact iteT ⟨_, rfl, _, rfl, _, _, rfl, rfl, q⟩
      · rw [decide_eq_false c2] at q ⊢
        exact iteF q
    · rw [decide_eq_false c1] at q ⊢
      exact iteF q
/-! ### Lost.shows -/
def spLostShows (K : PySem.W.Frag) (C T : Addr) : Sp := fun vs H Q _ => ∃ (p dx a : Addr) (ns : List Int) (f h l : Int), vs = [.ref p, .int f, .int h, .int l] ∧ H p = some (.ins C dx (lostF a)) ∧ H a = some (.lst (ns.map V.int)) ∧ 1 ≤ f ∧ f ≤ 30 ∧ 0 ≤ h ∧ h < Bd ∧ GxR.TabG H T ∧
  ∀ H', Sm H H' → Q (.bl (lostShows f h l ns)) H'
theorem scLostShows : FnScope ["self", "factor", "heap", "limit"] ["self", "factor", "heap", "limit"] (defScope sLostShows) := ⟨rfl, rfl, rfl, by decide +kernel, rfl, by decide +kernel, by decide +kernel⟩
theorem ok_lost_shows {f C T fI fW fS fL : Addr} {fd fdW fdS fdL : FuncData} (F : Fun K "shows" "Lost.shows" sLostShows f fd) (O : One K mg "Lost" "parts" C fI)
    (GW : FnOk P w K mg base CX0 3 fW fdW ["numbers", "least"] (spIsWholeList K T)) (kW : PySem.W.keepIn K (.ref fW) = true) (bW : Binds K fdW ["numbers", "least"] []) (gW : mg "is_whole_list" = some (.ref fW))
    (GS : FnOk P w K mg base CX0 3 fS fdS ["factor", "heap"] spSumOf) (kS : PySem.W.keepIn K (.ref fS) = true) (bS : Binds K fdS ["factor", "heap"] []) (gS : mg "sum_of" = some (.ref fS))
    (GL : FnOk P w K mg base CX0 1 fL fdL ["parts", "limit"] (spIsLost K)) (kL : PySem.W.keepIn K (.ref fL) = true) (bL : Binds K fdL ["parts", "limit"] []) (gL : mg "is_lost" = some (.ref fL)) :
    FnOk P w K mg base CX0 4 f fd ["self", "factor", "heap", "limit"] (spLostShows K C T) := by
  refine F.ok scLostShows (fun vs H Q E h => ?_) (fun cdv A outer s H vs Q E hr h => ?_)
  · obtain ⟨p, dx, a, ns, f, h, l, rfl, _⟩ := h
    rfl
  · obtain ⟨p, dx, a, ns, f, h, l, rfl, hp, ha, h1, h30, h0, hB, hT, q⟩ := h
    have hr1 : Room 1 _ := hr.mono (by decide)
    refine ⟨_, pss_cons (ps_if (pt_not (pt_val (pe_call GW hr (by rfl) gW kW bW .nil pass0 (pa_cons (pe_fld (pv 0) rfl) (pa_cons pe_int pa_nil))))) (pss_one (ps_ret pe_bl)) pss_nil)
      (pss_one (ps_ret (pe_and (pe_cmpR (op_eqL hr.units) (pe_fld (pv 0) rfl) (pe_call GS hr (by rfl) gS kS bS .nil pass0 (pa_cons (pv 1) (pa_cons (pv 2) pa_nil))) (nomark _))
        (pe_one (pe_call GL hr1 (by rfl) gL kL bL .nil pass0 (pa_cons (pe_fld (pv 0) rfl) (pa_cons (pv 3) pa_nil))))))), ?_⟩
    refine ⟨_, rfl, p, C, dx, _, _, rfl, hp, O.cl, O.nF, rfl, _, 1, rfl, hT, .inr ⟨a, _, _, rfl, SqL.of ha, wl_len, wl_each, fun H1 hb => ⟨_, rfl, ?_⟩⟩⟩
    rw [wl_all]
    have s1 := Sm.tabbed hT hb
    have hp1 : H1 p = some (.ins C dx (lostF a)) := s1.1 _ _ rfl hp
    have ha1 := s1.lst ha
    by_cases c : (ns.all fun n => decide (1 ≤ n)) = true
    · rw [c]
      refine iteF ⟨_, rfl, p, C, dx, _, _, rfl, hp1, O.cl, O.nF, rfl, _, rfl, _, rfl, f, h, rfl, h1, h30, h0, hB, fun r H2 _ s2 nr hR => ?_⟩
      have hp2 := s2 _ _ hp1
      have ha2 := s2 _ _ ha1
      refine ⟨a, r, _, _, rfl, rfl, SqL.of ha2, SqL.of hR, _, rfl, ?_⟩
      have q2 := q H2 (s1.trans (Sm.of s2))
      unfold lostShows at q2
      by_cases e : ns = parts f h
      · rw [decide_eq_true e] at q2 ⊢
        exact iteT ⟨_, rfl, p, C, dx, _, _, rfl, hp2, O.cl, O.nF, rfl, _, rfl, a, ns, l, rfl, SqL.of ha2, q2⟩
      · rw [decide_eq_false e] at q2 ⊢
        exact iteF q2
    · have q1 := q H1 s1
      have e : lostShows f h l ns = false := by
        unfold lostShows
        rw [decide_eq_false fun e => c (List.all_eq_true.mpr fun n hn => decide_eq_true (parts_mem h1 n (e ▸ hn)).1)]
        rfl
      rw [e] at q1
      rw [Bool.eq_false_iff.mpr c]
      exact iteT q1
/-! ### Won.shows -/
def spWonShows (C : Addr) : Sp := fun vs H Q _ => ∃ (p dx : Addr) (t f h l : Int), vs = [.ref p, .int f, .int h, .int l] ∧ H p = some (.ins C dx (wonF t)) ∧ 1 ≤ f ∧ f ≤ 30 ∧ 0 ≤ h ∧ h < Bd ∧ ∀ H', Same H H' → Q (.bl (wonShows f h l t)) H'
theorem scWonShows : FnScope ["self", "factor", "heap", "limit", "next_heap", "next_limit"] ["self", "factor", "heap", "limit"] (defScope sWonShows) := ⟨rfl, rfl, rfl, by decide +kernel, rfl, by decide +kernel, by decide +kernel⟩
theorem ok_won_shows {f C fI fT fS fL fB : Addr} {fd fdT fdS fdL fdB : FuncData} (F : Fun K "shows" "Won.shows" sWonShows f fd) (O : One K mg "Won" "taking" C fI)
    (GT : FnOk P w K mg base CX0 2 fT fdT ["heap", "limit", "taking"] spIsTaking) (kT : PySem.W.keepIn K (.ref fT) = true) (bT : Binds K fdT ["heap", "limit", "taking"] []) (gT : mg "is_taking" = some (.ref fT))
    (GS : FnOk P w K mg base CX0 3 fS fdS ["factor", "heap"] spSumOf) (kS : PySem.W.keepIn K (.ref fS) = true) (bS : Binds K fdS ["factor", "heap"] []) (gS : mg "sum_of" = some (.ref fS))
    (GL : FnOk P w K mg base CX0 1 fL fdL ["parts", "limit"] (spIsLost K)) (kL : PySem.W.keepIn K (.ref fL) = true) (bL : Binds K fdL ["parts", "limit"] []) (gL : mg "is_lost" = some (.ref fL))
    (GB : FnOk P w K mg base CX0 1 fB fdB ["factor", "heap", "taking"] spLeftBy) (kB : PySem.W.keepIn K (.ref fB) = true) (bB : Binds K fdB ["factor", "heap", "taking"] []) (gB : mg "left_by" = some (.ref fB)) :
    FnOk P w K mg base CX0 4 f fd ["self", "factor", "heap", "limit"] (spWonShows C) := by
  refine F.ok scWonShows (fun vs H Q E h => ?_) (fun cdv A outer s H vs Q E hr h => ?_)
  · obtain ⟨p, dx, t, f, h, l, rfl, _⟩ := h
    rfl
  · obtain ⟨p, dx, t, f, h, l, rfl, hp, h1, h30, h0, hB, q⟩ := h
    have hr1 : Room 1 _ := hr.mono (by decide)
    have hr2 : Room 2 _ := hr.mono (by decide)
    refine ⟨_, pss_cons (ps_if (pt_not (pt_val (pe_call GT hr2 (by rfl) gT kT bT .nil pass0 (pa_cons (pv 2) (pa_cons (pv 3) (pa_cons (pe_fld (pv 0) rfl) pa_nil)))))) (pss_one (ps_ret pe_bl)) pss_nil)
      (pss_cons (ps_asg (pe_call GB hr1 (by rfl) gB kB bB .nil pass0 (pa_cons (pv 1) (pa_cons (pv 2) (pa_cons (pe_fld (pv 0) rfl) pa_nil)))) (pg_tup (by rfl) (pgs_cons (pg_name (i := 4) scWonShows.nd rfl (Or.inl rfl)) (pgs_cons (pg_name (i := 5) scWonShows.nd rfl (Or.inl rfl)) pgs_nil))))
      (pss_one (ps_ret (pe_call GL hr1 (by rfl) gL kL bL .nil pass0 (pa_cons (pe_call GS hr (by rfl) gS kS bS .nil pass0 (pa_cons (pv 1) (pa_cons (pv 4) pa_nil))) (pa_cons (pv 5) pa_nil)))))), ?_⟩
    refine ⟨_, rfl, _, rfl, _, rfl, p, C, dx, _, _, rfl, hp, O.cl, O.nF, rfl, h, l, t, rfl, _, rfl, ?_⟩
    by_cases c : takeB h l t = true
    · rw [c]
      refine iteF ⟨_, rfl, _, rfl, _, rfl, p, C, dx, _, _, rfl, hp, O.cl, O.nF, rfl, f, h, t, rfl, h1, h30, fun u nu => ?_⟩
      have ht : 1 ≤ t ∧ t ≤ h := by
        unfold takeB at c
        simp only [Bool.and_eq_true, decide_eq_true_eq] at c
        exact ⟨c.1, c.2.1⟩
      refine ⟨u, _, rfl, SqT.of upd_same, rfl, _, _, rfl, _, _, rfl, rfl, ?_⟩
      refine ⟨_, rfl, _, rfl, f, h - t, rfl, h1, h30, by omega, by omega, fun r H2 _ s2 nr hR => ?_⟩
      refine ⟨_, rfl, r, _, f * t, rfl, SqL.of hR, ?_⟩
      have q2 := q H2 ((same_upd nu).trans s2)
      unfold wonShows at q2
      rw [c] at q2
      exact q2
    · have q1 := q H (Same.refl H)
      unfold wonShows at q1
      rw [Bool.eq_false_iff.mpr c] at q1 ⊢
      exact iteT q1
end
end TA
set_option Elab.async false
set_option linter.all false
set_option maxRecDepth 100000
set_option maxHeartbeats 4000000
namespace TA
open PySem PySem.Spec PyProof.Rows L2
/-- an own error's class -/
structure ExF (K : PySem.W.Frag) (mg : Str → Option Value) (nm : Str) (C : Addr) : Prop where
  x : PySem.W.excIn K C [.type "ValueError", .type "Exception", .type "BaseException", .type "object"] "ValueError.__new__" = true
  g : mg nm = some (.ref C)
  k : PySem.W.keepIn K (.ref C) = true
  b : PySem.W.subIn K (.ref C) (.type "BaseException") = some true
  t : PySem.W.typeIn K (.ref C) = some (.type "type")
/-- whether v is a whole number from lo to hi -/
def FacIs (K : PySem.W.Frag) (H : Hp) (lo hi : Int) (v : V) (b : Bool) : Prop := ∃ T, TyB K H v T ∧ ((∃ n, v = .int n ∧ b = (decide (lo ≤ n) && decide (n ≤ hi))) ∨ (T ≠ "int" ∧ b = false))
def spXIn (K : PySem.W.Frag) (lo hi : Int) (C : Addr) : Sp := fun vs H Q E => ∃ v b, vs = [v] ∧ FacIs K H lo hi v b ∧ (b = true → Q .non H) ∧ (b = false → E (.ref C) none H)
def spXFrom (K : PySem.W.Frag) (m : Int) (C : Addr) : Sp := fun vs H Q E => ∃ v b, vs = [v] ∧ WholeIs K H m v b ∧ (b = true → Q .non H) ∧ (b = false → E (.ref C) none H)
section
variable {P : Program} {w : World} {K : PySem.W.Frag} {mg : Str → Option Value} {base : Heap}
theorem scCkLimitX : FnScope ["limit"] ["limit"] (defScope sCkLimit) := ⟨rfl, rfl, rfl, by decide +kernel, rfl, by decide +kernel, by decide +kernel⟩
theorem ok_x_factor {f fW C : Addr} {fd fdW : FuncData} {t : Tok} (F : Fun K "check_factor" "check_factor" sCkFactor f fd) (FW : Fun K "is_whole" "is_whole" sIsWhole fW fdW) (bW : Binds K fdW ["value", "least"] []) (gW : mg "is_whole" = some (.ref fW))
    (gG : mg "GREATEST_FACTOR" = some (.int 30 t)) (mt : mg "type" = none) (mi : mg "int" = none) (X : ExF K mg "BadFactor" C) :
    FnOk P w K mg base (L2.CX P w) 2 f fd ["factor"] (spXIn K 1 30 C) := by
  have GW : FnOk P w K mg base CX0 1 fW fdW ["value", "least"] (spIsWhole K) := ok_is_whole FW mt mi
  refine F.okX scCkFactor (fun vs H Q E h => ?_) (fun cdv A outer s H vs Q E hr h => ?_)
  · obtain ⟨v, b, rfl, _⟩ := h
    rfl
  · obtain ⟨v, b, rfl, ⟨T, hT, hv⟩, qT, qF⟩ := h
    refine ⟨_, pss_one (ps_if (PW.pt (pw_or (pt_not (pt_val (pe_call GW hr (by rfl) gW FW.kp bW .nil pass0 (pa_cons (pv 0) (pa_cons pe_int pa_nil)))))
      (pw_or1 (pt_cmpR op_gt (pv 0) (pe_glob (v := .int 30) (by rfl) gG ⟨_, rfl⟩) (nomark _))))) (pss_one (ps_raise rfl (takes_of rfl rfl rfl rfl) (pmk_own PySem.F.excBase_ValueError X.x X.g X.k (raises_own X.b X.t) rfl))) pss_nil), ?_⟩
    refine ⟨v, rfl, v, T, 1, rfl, hT, ?_⟩
    rcases hv with ⟨n, rfl, rfl⟩ | ⟨ne, rfl⟩
    · refine .inl ⟨n, rfl, _, rfl, ?_⟩
      by_cases c : (1 : Int) ≤ n
      · rw [decide_eq_true c] at qT qF ⊢
        refine iteF ⟨_, rfl, _, _, rfl, rfl, _, rfl, ?_⟩
        by_cases c2 : n ≤ 30
        · rw [decide_eq_true c2] at qT
          rw [decide_eq_false (by omega)]
          exact iteF (qT rfl)
        · rw [decide_eq_false c2] at qF
          rw [decide_eq_true (by omega)]
          exact iteT (qF rfl)
      · rw [decide_eq_false c] at qF ⊢
        exact iteT (qF rfl)
    · exact .inr ⟨ne, _, rfl, iteT (qF rfl)⟩
theorem ok_x_number {f fW C : Addr} {fd fdW : FuncData} {t : Tok} (F : Fun K "check_number" "check_number" sCkNumber f fd) (FW : Fun K "is_whole" "is_whole" sIsWhole fW fdW) (bW : Binds K fdW ["value", "least"] []) (gW : mg "is_whole" = some (.ref fW))
    (gG : mg "GREATEST_NUMBER" = some (.int 3000 t)) (mt : mg "type" = none) (mi : mg "int" = none) (X : ExF K mg "BadNumber" C) :
    FnOk P w K mg base (L2.CX P w) 2 f fd ["number"] (spXIn K 0 3000 C) := by
  have GW : FnOk P w K mg base CX0 1 fW fdW ["value", "least"] (spIsWhole K) := ok_is_whole FW mt mi
  refine F.okX scCkNumber (fun vs H Q E h => ?_) (fun cdv A outer s H vs Q E hr h => ?_)
  · obtain ⟨v, b, rfl, _⟩ := h
    rfl
  · obtain ⟨v, b, rfl, ⟨T, hT, hv⟩, qT, qF⟩ := h
    refine ⟨_, pss_one (ps_if (PW.pt (pw_or (pt_not (pt_val (pe_call GW hr (by rfl) gW FW.kp bW .nil pass0 (pa_cons (pv 0) (pa_cons pe_int pa_nil)))))
      (pw_or1 (pt_cmpR op_gt (pv 0) (pe_glob (v := .int 3000) (by rfl) gG ⟨_, rfl⟩) (nomark _))))) (pss_one (ps_raise rfl (takes_of rfl rfl rfl rfl) (pmk_own PySem.F.excBase_ValueError X.x X.g X.k (raises_own X.b X.t) rfl))) pss_nil), ?_⟩
    refine ⟨v, rfl, v, T, 0, rfl, hT, ?_⟩
    rcases hv with ⟨n, rfl, rfl⟩ | ⟨ne, rfl⟩
    · refine .inl ⟨n, rfl, _, rfl, ?_⟩
      by_cases c : (0 : Int) ≤ n
      · rw [decide_eq_true c] at qT qF ⊢
        refine iteF ⟨_, rfl, _, _, rfl, rfl, _, rfl, ?_⟩
        by_cases c2 : n ≤ 3000
        · rw [decide_eq_true c2] at qT
          rw [decide_eq_false (by omega)]
          exact iteF (qT rfl)
        · rw [decide_eq_false c2] at qF
          rw [decide_eq_true (by omega)]
          exact iteT (qF rfl)
      · rw [decide_eq_false c] at qF ⊢
        exact iteT (qF rfl)
    · exact .inr ⟨ne, _, rfl, iteT (qF rfl)⟩
theorem ok_x_heap {f fW C : Addr} {fd fdW : FuncData} (F : Fun K "check_heap" "check_heap" sCkHeap f fd) (FW : Fun K "is_whole" "is_whole" sIsWhole fW fdW) (bW : Binds K fdW ["value", "least"] []) (gW : mg "is_whole" = some (.ref fW))
    (mt : mg "type" = none) (mi : mg "int" = none) (X : ExF K mg "BadHeap" C) :
    FnOk P w K mg base (L2.CX P w) 2 f fd ["heap"] (spXFrom K 0 C) := by
  have GW : FnOk P w K mg base CX0 1 fW fdW ["value", "least"] (spIsWhole K) := ok_is_whole FW mt mi
  refine F.okX scCkHeap (fun vs H Q E h => ?_) (fun cdv A outer s H vs Q E hr h => ?_)
  · obtain ⟨v, b, rfl, _⟩ := h
    rfl
  · obtain ⟨v, b, rfl, ⟨T, hT, hv⟩, qT, qF⟩ := h
    refine ⟨_, pss_one (ps_if (pt_not (pt_val (pe_call GW hr (by rfl) gW FW.kp bW .nil pass0 (pa_cons (pv 0) (pa_cons pe_int pa_nil))))) (pss_one (ps_raise rfl (takes_of rfl rfl rfl rfl) (pmk_own PySem.F.excBase_ValueError X.x X.g X.k (raises_own X.b X.t) rfl))) pss_nil), ?_⟩
    refine ⟨v, rfl, v, T, 0, rfl, hT, ?_⟩
    rcases hv with ⟨n, rfl, rfl⟩ | ⟨ne, rfl⟩
    · refine .inl ⟨n, rfl, _, rfl, ?_⟩
      by_cases c : (0 : Int) ≤ n
      · rw [decide_eq_true c] at qT ⊢
        exact iteF (qT rfl)
      · rw [decide_eq_false c] at qF ⊢
        exact iteT (qF rfl)
    · exact .inr ⟨ne, _, rfl, iteT (qF rfl)⟩
theorem ok_x_limit {f fW C : Addr} {fd fdW : FuncData} (F : Fun K "check_limit" "check_limit" sCkLimit f fd) (FW : Fun K "is_whole" "is_whole" sIsWhole fW fdW) (bW : Binds K fdW ["value", "least"] []) (gW : mg "is_whole" = some (.ref fW))
    (mt : mg "type" = none) (mi : mg "int" = none) (X : ExF K mg "BadLimit" C) :
    FnOk P w K mg base (L2.CX P w) 2 f fd ["limit"] (spXFrom K 0 C) := by
  have GW : FnOk P w K mg base CX0 1 fW fdW ["value", "least"] (spIsWhole K) := ok_is_whole FW mt mi
  refine F.okX scCkLimitX (fun vs H Q E h => ?_) (fun cdv A outer s H vs Q E hr h => ?_)
  · obtain ⟨v, b, rfl, _⟩ := h
    rfl
  · obtain ⟨v, b, rfl, ⟨T, hT, hv⟩, qT, qF⟩ := h
    refine ⟨_, pss_one (ps_if (pt_not (pt_val (pe_call GW hr (by rfl) gW FW.kp bW .nil pass0 (pa_cons (pv 0) (pa_cons pe_int pa_nil))))) (pss_one (ps_raise rfl (takes_of rfl rfl rfl rfl) (pmk_own PySem.F.excBase_ValueError X.x X.g X.k (raises_own X.b X.t) rfl))) pss_nil), ?_⟩
    refine ⟨v, rfl, v, T, 0, rfl, hT, ?_⟩
    rcases hv with ⟨n, rfl, rfl⟩ | ⟨ne, rfl⟩
    · refine .inl ⟨n, rfl, _, rfl, ?_⟩
      by_cases c : (0 : Int) ≤ n
      · rw [decide_eq_true c] at qT ⊢
        exact iteF (qT rfl)
      · rw [decide_eq_false c] at qF ⊢
        exact iteT (qF rfl)
    · exact .inr ⟨ne, _, rfl, iteT (qF rfl)⟩
end
end TA
set_option Elab.async false
set_option linter.all false
set_option maxRecDepth 100000
set_option maxHeartbeats 4000000
namespace TA
open PySem PySem.Spec PyProof.Rows L2
/-- whether v is a taking -/
def TakIs (K : PySem.W.Frag) (H : Hp) (h l : Int) (v : V) (b : Bool) : Prop := ∃ T, TyB K H v T ∧ ((∃ t, v = .int t ∧ b = takeB h l t) ∨ (T ≠ "int" ∧ b = false))
section
variable {P : Program} {w : World} {K : PySem.W.Frag} {mg : Str → Option Value} {base : Heap}
/-! ### is_taking, check_taking -/
def spXIsTaking (K : PySem.W.Frag) : Sp := fun vs H Q _ => ∃ (h l : Int) (v : V) (b : Bool), vs = [.int h, .int l, v] ∧ TakIs K H h l v b ∧ Q (.bl b) H
theorem ok_x_is_taking {f fW : Addr} {fd fdW : FuncData} (F : Fun K "is_taking" "is_taking" sIsTaking f fd) (FW : Fun K "is_whole" "is_whole" sIsWhole fW fdW) (bW : Binds K fdW ["value", "least"] []) (gW : mg "is_whole" = some (.ref fW)) (mt : mg "type" = none) (mi : mg "int" = none) :
    FnOk P w K mg base CX0 2 f fd ["heap", "limit", "taking"] (spXIsTaking K) := by
  have GW : FnOk P w K mg base CX0 1 fW fdW ["value", "least"] (spIsWhole K) := ok_is_whole FW mt mi
  refine F.ok scIsTaking (fun vs H Q E h => ?_) (fun cdv A outer s H vs Q E hr h => ?_)
  · obtain ⟨h, l, v, b, rfl, _⟩ := h
    rfl
  · obtain ⟨h, l, v, b, rfl, ⟨T, hT, hv⟩, q⟩ := h
    refine ⟨_, pss_one (ps_ret (pe_and (pe_call GW hr (by rfl) gW FW.kp bW .nil pass0 (pa_cons (pv 2) (pa_cons pe_int pa_nil))) (pe_and (pe_cmpR op_le (pv 2) (pv 0) (nomark _)) (pe_one (pe_cmpR op_le (pv 2) (pv 1) (nomark _)))))), ?_⟩
    refine ⟨v, rfl, v, T, 1, rfl, hT, ?_⟩
    rcases hv with ⟨t, rfl, rfl⟩ | ⟨ne, rfl⟩
    · refine .inl ⟨t, rfl, _, rfl, ?_⟩
      unfold takeB at q
      by_cases c1 : 1 ≤ t
      · rw [decide_eq_true c1] at q ⊢
        refine iteT ⟨_, rfl, _, rfl, _, _, rfl, rfl, _, rfl, ?_⟩
        by_cases c2 : t ≤ h
        · rw [decide_eq_true c2] at q ⊢
          exact iteT ⟨_, rfl, _, rfl, _, _, rfl, rfl, q⟩
        · rw [decide_eq_false c2] at q ⊢
          exact iteF q
      · rw [decide_eq_false c1] at q ⊢
        exact iteF q
    · exact .inr ⟨ne, _, rfl, iteF q⟩
def spXTaking (K : PySem.W.Frag) (C : Addr) : Sp := fun vs H Q E => ∃ (h l : Int) (v : V) (b : Bool), vs = [.int h, .int l, v] ∧ TakIs K H h l v b ∧ (b = true → Q .non H) ∧ (b = false → E (.ref C) none H)
theorem scCkTakingX : FnScope ["heap", "limit", "taking"] ["heap", "limit", "taking"] (defScope sCkTaking) := ⟨rfl, rfl, rfl, by decide +kernel, rfl, by decide +kernel, by decide +kernel⟩
theorem ok_x_taking {f fT C : Addr} {fd fdT : FuncData} (F : Fun K "check_taking" "check_taking" sCkTaking f fd)
    (GT : FnOk P w K mg base CX0 2 fT fdT ["heap", "limit", "taking"] (spXIsTaking K)) (kT : PySem.W.keepIn K (.ref fT) = true) (bT : Binds K fdT ["heap", "limit", "taking"] []) (gT : mg "is_taking" = some (.ref fT)) (X : ExF K mg "BadTaking" C) :
    FnOk P w K mg base (L2.CX P w) 3 f fd ["heap", "limit", "taking"] (spXTaking K C) := by
  refine F.okX scCkTakingX (fun vs H Q E h => ?_) (fun cdv A outer s H vs Q E hr h => ?_)
  · obtain ⟨h, l, v, b, rfl, _⟩ := h
    rfl
  · obtain ⟨h, l, v, b, rfl, hv, qT, qF⟩ := h
    refine ⟨_, pss_one (ps_if (pt_not (pt_val (pe_call GT hr (by rfl) gT kT bT .nil pass0 (pa_cons (pv 0) (pa_cons (pv 1) (pa_cons (pv 2) pa_nil)))))) (pss_one (ps_raise rfl (takes_of rfl rfl rfl rfl) (pmk_own PySem.F.excBase_ValueError X.x X.g X.k (raises_own X.b X.t) rfl))) pss_nil), ?_⟩
    refine ⟨_, rfl, _, rfl, v, rfl, h, l, v, b, rfl, hv, _, rfl, ?_⟩
    cases b with
    | true => exact iteF (qT rfl)
    | false => exact iteT (qF rfl)
/-! ### check_turn -/
def spXTurn (K : PySem.W.Frag) (D : Nat → Addr) : Sp := fun vs H Q E => ∃ v1 v2 v3 bf bh bl, vs = [v1, v2, v3] ∧ FacIs K H 1 30 v1 bf ∧ WholeIs K H 0 v2 bh ∧ WholeIs K H 0 v3 bl ∧
  (bf = false → E (.ref (D 0)) none H) ∧ (bf = true → bh = false → E (.ref (D 1)) none H) ∧ (bf = true → bh = true → bl = false → E (.ref (D 2)) none H) ∧ (bf = true → bh = true → bl = true → Q .non H)
theorem scCkTurnX : FnScope ["factor", "heap", "limit"] ["factor", "heap", "limit"] (defScope sCkTurn) := ⟨rfl, rfl, rfl, by decide +kernel, rfl, by decide +kernel, by decide +kernel⟩
theorem ok_x_turn {D : Nat → Addr} {f fC fN fL : Addr} {fd fdC fdN fdL : FuncData} (F : Fun K "check_turn" "check_turn" sCkTurn f fd)
    (GC : FnOk P w K mg base (L2.CX P w) 2 fC fdC ["factor"] (spXIn K 1 30 (D 0))) (kC : PySem.W.keepIn K (.ref fC) = true) (bC : Binds K fdC ["factor"] []) (gC : mg "check_factor" = some (.ref fC))
    (GN : FnOk P w K mg base (L2.CX P w) 2 fN fdN ["heap"] (spXFrom K 0 (D 1))) (kN : PySem.W.keepIn K (.ref fN) = true) (bN : Binds K fdN ["heap"] []) (gN : mg "check_heap" = some (.ref fN))
    (GL : FnOk P w K mg base (L2.CX P w) 2 fL fdL ["limit"] (spXFrom K 0 (D 2))) (kL : PySem.W.keepIn K (.ref fL) = true) (bL : Binds K fdL ["limit"] []) (gL : mg "check_limit" = some (.ref fL)) :
    FnOk P w K mg base (L2.CX P w) 3 f fd ["factor", "heap", "limit"] (spXTurn K D) := by
  refine F.okX scCkTurnX (fun vs H Q E h => ?_) (fun cdv A outer s H vs Q E hr h => ?_)
  · obtain ⟨v1, v2, v3, bf, bh, bl, rfl, _⟩ := h
    rfl
  · obtain ⟨v1, v2, v3, bf, bh, bl, rfl, hf, hh, hl, q0, q1, q2, q⟩ := h
    exact ⟨_, pss_cons (ps_expr (pe_call GC hr (by rfl) gC kC bC .nil (passes_call (takes_of rfl rfl rfl rfl) (fun _ _ _ _ h => h)) (pa_cons (pv 0) pa_nil))) (pss_cons (ps_expr (pe_call GN hr (by rfl) gN kN bN .nil (passes_call (takes_of rfl rfl rfl rfl) (fun _ _ _ _ h => h)) (pa_cons (pv 1) pa_nil)))
      (pss_one (ps_expr (pe_call GL hr (by rfl) gL kL bL .nil (passes_call (takes_of rfl rfl rfl rfl) (fun _ _ _ _ h => h)) (pa_cons (pv 2) pa_nil))))), v1, rfl, v1, bf, rfl, hf, fun ef => ⟨v2, rfl, v2, bh, rfl, hh, fun eh => ⟨v3, rfl, v3, bl, rfl, hl, fun el => q ef eh el, q2 ef eh⟩, q1 ef⟩, q0⟩
/-! ### told, of what it refuses -/
def spXTold (K : PySem.W.Frag) (D : Nat → Addr) : Sp := fun vs H Q E => ∃ v1 v2 v3 bf bh bl, vs = [v1, v2, v3] ∧ FacIs K H 1 30 v1 bf ∧ WholeIs K H 0 v2 bh ∧ WholeIs K H 0 v3 bl ∧
  (bf = false → E (.ref (D 0)) none H) ∧ (bf = true → bh = false → E (.ref (D 1)) none H) ∧ (bf = true → bh = true → bl = false → E (.ref (D 2)) none H) ∧ (bf = true → bh = true → bl = true → False)
theorem scToldX : FnScope ["factor", "heap", "limit", "parts"] ["factor", "heap", "limit"] (defScope sTold) := ⟨rfl, rfl, rfl, by decide +kernel, rfl, by decide +kernel, by decide +kernel⟩
theorem ok_x_told {D : Nat → Addr} {f fC : Addr} {fd fdC : FuncData} (F : Fun K "told" "told" sTold f fd)
    (GC : FnOk P w K mg base (L2.CX P w) 3 fC fdC ["factor", "heap", "limit"] (spXTurn K D)) (kC : PySem.W.keepIn K (.ref fC) = true) (bC : Binds K fdC ["factor", "heap", "limit"] []) (gC : mg "check_turn" = some (.ref fC)) :
    FnOk P w K mg base (L2.CX P w) 4 f fd ["factor", "heap", "limit"] (spXTold K D) := by
  refine F.okX scToldX (fun vs H Q E h => ?_) (fun cdv A outer s H vs Q E hr h => ?_)
  · obtain ⟨v1, v2, v3, bf, bh, bl, rfl, _⟩ := h
    rfl
  · obtain ⟨v1, v2, v3, bf, bh, bl, rfl, hf, hh, hl, q0, q1, q2, q⟩ := h
    exact ⟨_, pss_cons (ps_expr (pe_call GC hr (by rfl) gC kC bC .nil (passes_call (takes_of rfl rfl rfl rfl) (fun _ _ _ _ h => h)) (pa_cons (pv 0) (pa_cons (pv 1) (pa_cons (pv 2) pa_nil))))) pss_never,
      v1, rfl, v2, rfl, v3, rfl, v1, v2, v3, bf, bh, bl, rfl, hf, hh, hl, q0, q1, q2, fun ef eh el => q ef eh el⟩
/-! ### behind -/
def spXBehind (K : PySem.W.Frag) (D : Nat → Addr) : Sp := fun vs H Q E => ∃ v1 v2 v3 v4 bf bh bl, vs = [v1, v2, v3, v4] ∧ FacIs K H 1 30 v1 bf ∧ WholeIs K H 0 v2 bh ∧ WholeIs K H 0 v3 bl ∧
  (bf = false → E (.ref (D 0)) none H) ∧ (bf = true → bh = false → E (.ref (D 1)) none H) ∧ (bf = true → bh = true → bl = false → E (.ref (D 2)) none H) ∧
  (bf = true → bh = true → bl = true → ∃ (f h l : Int) (b : Bool), v1 = .int f ∧ v2 = .int h ∧ v3 = .int l ∧ 1 ≤ f ∧ f ≤ 30 ∧ TakIs K H h l v4 b ∧ (b = false → E (.ref (D 5)) none H) ∧
    (b = true → ∃ t, v4 = .int t ∧ ∀ p, H p = none → Q (.ref p) (upd H p (.tup [.int (h - t), .int (f * t)]))))
theorem scBehindX : FnScope ["factor", "heap", "limit", "taking"] ["factor", "heap", "limit", "taking"] (defScope sBehind) := ⟨rfl, rfl, rfl, by decide +kernel, rfl, by decide +kernel, by decide +kernel⟩
theorem ok_x_behind {D : Nat → Addr} {f fC fT fB : Addr} {fd fdC fdT fdB : FuncData} (F : Fun K "behind" "behind" sBehind f fd)
    (GC : FnOk P w K mg base (L2.CX P w) 3 fC fdC ["factor", "heap", "limit"] (spXTurn K D)) (kC : PySem.W.keepIn K (.ref fC) = true) (bC : Binds K fdC ["factor", "heap", "limit"] []) (gC : mg "check_turn" = some (.ref fC))
    (GT : FnOk P w K mg base (L2.CX P w) 3 fT fdT ["heap", "limit", "taking"] (spXTaking K (D 5))) (kT : PySem.W.keepIn K (.ref fT) = true) (bT : Binds K fdT ["heap", "limit", "taking"] []) (gT : mg "check_taking" = some (.ref fT))
    (GB : FnOk P w K mg base CX0 1 fB fdB ["factor", "heap", "taking"] spLeftBy) (kB : PySem.W.keepIn K (.ref fB) = true) (bB : Binds K fdB ["factor", "heap", "taking"] []) (gB : mg "left_by" = some (.ref fB)) :
    FnOk P w K mg base (L2.CX P w) 4 f fd ["factor", "heap", "limit", "taking"] (spXBehind K D) := by
  refine F.okX scBehindX (fun vs H Q E h => ?_) (fun cdv A outer s H vs Q E hr h => ?_)
  · obtain ⟨v1, v2, v3, v4, bf, bh, bl, rfl, _⟩ := h
    rfl
  · obtain ⟨v1, v2, v3, v4, bf, bh, bl, rfl, hf, hh, hl, q0, q1, q2, q⟩ := h
    refine ⟨_, pss_cons (ps_expr (pe_call GC hr (by rfl) gC kC bC .nil (passes_call (takes_of rfl rfl rfl rfl) (fun _ _ _ _ h => h)) (pa_cons (pv 0) (pa_cons (pv 1) (pa_cons (pv 2) pa_nil))))) (pss_cons (ps_expr (pe_call GT hr (by rfl) gT kT bT .nil (passes_call (takes_of rfl rfl rfl rfl) (fun _ _ _ _ h => h)) (pa_cons (pv 1) (pa_cons (pv 2) (pa_cons (pv 3) pa_nil)))))
      (pss_one (ps_ret (pe_call GB (hr.mono (by decide)) (by rfl) gB kB bB .nil pass0 (pa_cons (pv 0) (pa_cons (pv 1) (pa_cons (pv 3) pa_nil))))))),
      v1, rfl, v2, rfl, v3, rfl, v1, v2, v3, bf, bh, bl, rfl, hf, hh, hl, q0, q1, q2, fun ef eh el => ?_⟩
    obtain ⟨f, h, l, b, rfl, rfl, rfl, h1, h30, ht, q5, q⟩ := q ef eh el
    refine ⟨_, rfl, _, rfl, v4, rfl, h, l, v4, b, rfl, ht, fun eb => ?_, q5⟩
    obtain ⟨t, rfl, qB⟩ := q eb
    exact ⟨_, rfl, _, rfl, _, rfl, f, h, t, rfl, h1, h30, qB⟩
end
end TA
set_option Elab.async false
set_option linter.all false
set_option maxRecDepth 100000
set_option maxHeartbeats 4000000
namespace TA
open PySem PySem.Spec PyProof.Rows L2
section
variable {P : Program} {w : World} {K : PySem.W.Frag} {mg : Str → Option Value} {base : Heap}
/-! ### sum_of, that may refuse -/
def spXSumOf (K : PySem.W.Frag) (D : Nat → Addr) : Sp := fun vs H Q E => ∃ v1 v2 bf bh, vs = [v1, v2] ∧ FacIs K H 1 30 v1 bf ∧ WholeIs K H 0 v2 bh ∧ (bf = false → E (.ref (D 0)) none H) ∧ (bf = true → bh = false → E (.ref (D 1)) none H) ∧
  (bf = true → bh = true → ∃ (f h : Int), v1 = .int f ∧ v2 = .int h ∧ 1 ≤ f ∧ f ≤ 30 ∧ 0 ≤ h ∧ h < Bd ∧
    ∀ (r : Addr) (H' : Hp), (parts f h).length ≤ 9001 → Same H H' → H r = none → H' r = some (.lst ((parts f h).map V.int)) → Q (.ref r) H')
theorem scSumOfX : FnScope ["factor", "heap", "parts", "left", "step"] ["factor", "heap"] (defScope sSumOf) := ⟨rfl, rfl, rfl, by decide +kernel, rfl, by decide +kernel, by decide +kernel⟩
theorem ok_x_sum_of {D : Nat → Addr} {f fR fC fN : Addr} {fd fdR fdC fdN : FuncData} (F : Fun K "sum_of" "sum_of" sSumOf f fd)
    (GR : FnOk P w K mg base CX0 2 fR fdR ["factor", "heap"] spRowPast) (kR : PySem.W.keepIn K (.ref fR) = true) (bR : Binds K fdR ["factor", "heap"] []) (gR : mg "row_past" = some (.ref fR))
    (GC : FnOk P w K mg base (L2.CX P w) 2 fC fdC ["factor"] (spXIn K 1 30 (D 0))) (kC : PySem.W.keepIn K (.ref fC) = true) (bC : Binds K fdC ["factor"] []) (gC : mg "check_factor" = some (.ref fC))
    (GN : FnOk P w K mg base (L2.CX P w) 2 fN fdN ["heap"] (spXFrom K 0 (D 1))) (kN : PySem.W.keepIn K (.ref fN) = true) (bN : Binds K fdN ["heap"] []) (gN : mg "check_heap" = some (.ref fN)) (mr : mg "reversed" = none) :
    FnOk P w K mg base (L2.CX P w) 3 f fd ["factor", "heap"] (spXSumOf K D) := by
  refine F.okX scSumOfX (fun vs H Q E h => ?_) (fun cdv A outer s H vs Q E hr h => ?_)
  · obtain ⟨v1, v2, bf, bh, rfl, _⟩ := h
    rfl
  · obtain ⟨v1, v2, bf, bh, rfl, hf, hh, q0, q1, q⟩ := h
    refine ⟨_, pss_cons (ps_expr (pe_call GC hr (by rfl) gC kC bC .nil (passes_call (takes_of rfl rfl rfl rfl) (fun _ _ _ _ h => h)) (pa_cons (pv 0) pa_nil))) (pss_cons (ps_expr (pe_call GN hr (by rfl) gN kN bN .nil (passes_call (takes_of rfl rfl rfl rfl) (fun _ _ _ _ h => h)) (pa_cons (pv 1) pa_nil)))
      (pss_cons (ps_set (i := 2) scSumOfX.nd rfl (Or.inl rfl) (pe_lst pa_nil)) (pss_cons (ps_set (i := 3) scSumOfX.nd rfl (Or.inl rfl) (pv 1))
      (pss_cons (ps_for (passes_of rfl) rfl (pi_reversed (by rfl) mr (pa_cons (pe_call GR hr (by rfl) gR kR bR .nil pass0 (pa_cons (pv 0) (pa_cons (pv 1) pa_nil))) pa_nil)) (pg_name (i := 4) scSumOfX.nd rfl (Or.inl rfl))
        (pss_one (ps_if (pt_cmpR op_le (pv 4) (pv 3) (nomark _))
          (pss_cons (ps_expr (pe_bm PySem.F.plainAttrs_list PySem.F.slot_list_append PySem.F.type_list_append mt_append (pv 2) (pa_cons (pv 4) pa_nil)))
            (pss_one (ps_aug (i := 3) scSumOfX.nd rfl (.inl rfl) (pv 4) ip_sub))) pss_nil)))
      (pss_one (ps_ret (pv 2))))))), ?_⟩
    refine ⟨v1, rfl, v1, bf, rfl, hf, fun ef => ?_, q0⟩
    refine ⟨v2, rfl, v2, bh, rfl, hh, fun eh => ?_, q1 ef⟩
    obtain ⟨f, h, rfl, rfl, h1, h30, h0, hB, q⟩ := q ef eh
    refine ⟨Nat.zero_le _, fun p np => ?_⟩
    refine ⟨_, rfl, ?_⟩
    refine ⟨_, rfl, _, rfl, f, h, rfl, h1, h30, hB, fun n r H1 hz hn sm1 nr1 hR => ?_⟩
    have nr : H r = none := (same_upd (o := .lst []) np).free nr1
    have hpr : r ≠ p := fun e => by rw [e, upd_same] at nr1; cases nr1
    have hp1 : H1 p = some (.lst []) := sm1 _ _ upd_same
    have sm0 : Same H H1 := (same_upd np).trans sm1
    refine ⟨r, _, rfl, SqL.of hR, RT.for_Itv (K := K) (a := r) (xs := rowV f n) (fun i σ H' => ∃ (acc : List Int) (l : Int) (v : Option V), σ = [some (.int f), some (.int h), some (.ref p), some (.int l), v] ∧ Same H H' ∧ H' r = some (.lst (rowV f n)) ∧
      H' p = some (.lst (acc.map V.int)) ∧ acc ++ gr ((rowR f n).drop i) l = gr (rowR f n) h ∧ acc.length ≤ i) ?_ ?_ ?_ ?_⟩
    · exact ⟨[], h, none, rfl, sm0, hR, hp1, rfl, Nat.le_refl _⟩
    · rintro i σ H' ⟨_, _, _, _, _, hR', _⟩
      exact SqL.of hR'
    · rintro i x σ H' hi hx ⟨acc, l, v, rfl, sm, hR', hp', eg, hl⟩
      obtain ⟨z, rfl, ed⟩ := rev_item hx hi
      rw [rowV_length] at hi
      refine ⟨.int z, rfl, .int l, rfl, z, l, rfl, rfl, _, rfl, ?_⟩
      rw [ed] at eg
      refine ite2 (fun c => ?_) (fun c => ?_)
      · have c' : z ≤ l := of_decide_eq_true c
        refine ⟨.ref p, rfl, .inl ⟨rfl, _, SqL.of hp'⟩, .int z, rfl, p, _, _, rfl, rfl, hp', ?_, ?_⟩
        · rw [List.length_map]
          exact small_line (by omega)
        · refine ⟨_, rfl, .int z, rfl, l, z, rfl, rfl, acc ++ [z], l - z, _, rfl, same_new sm np, ?_, ?_, ?_, ?_⟩
          · rw [upd_ne hpr]; exact hR'
          · rw [upd_same, List.map_append]; rfl
          · rw [gr_pos c'] at eg
            rw [← eg, List.append_assoc]; rfl
          · rw [List.length_append, List.length_singleton]; omega
      · have c' : ¬ z ≤ l := of_decide_eq_false (Bool.eq_false_iff.mpr c)
        refine ⟨acc, l, _, rfl, sm, hR', hp', ?_, by omega⟩
        rw [gr_neg c'] at eg
        exact eg
    · rintro σ H' ⟨acc, l, v, rfl, sm, hR', hp', eg, hl⟩
      have e : (rowR f n).drop (rowV f n).length = [] := List.drop_eq_nil_of_le (by rw [rowV_length, rowR_len]; exact Nat.le_refl _)
      rw [e] at eg
      have e2 : acc = parts f h := by
        rw [← parts_of h1 h0 hz, ← eg, gr_nil, List.append_nil]
      subst e2
      rw [rowV_length] at hl
      exact ⟨.ref p, rfl, q p H' (by omega) sm np hp'⟩
/-! ### step_by, that may refuse -/
def spXStepBy (K : PySem.W.Frag) (D : Nat → Addr) : Sp := fun vs H Q E => ∃ v1 v2 bf bn, vs = [v1, v2] ∧ FacIs K H 1 30 v1 bf ∧ FacIs K H 0 3000 v2 bn ∧ (bf = false → E (.ref (D 0)) none H) ∧ (bf = true → bn = false → E (.ref (D 3)) none H) ∧
  (bf = true → bn = true → ∃ (f n : Int), v1 = .int f ∧ v2 = .int n ∧ 1 ≤ f ∧ f ≤ 30 ∧ 0 ≤ n ∧ n ≤ 3000 ∧ ∀ H', Same H H' → Q (.int (st f n.toNat)) H')
theorem scStepByX : FnScope ["factor", "number", "row", "place", "_"] ["factor", "number"] (defScope sStepBy) := ⟨rfl, rfl, rfl, by decide +kernel, rfl, by decide +kernel, by decide +kernel⟩
theorem ok_x_step_by {D : Nat → Addr} {f fA fC fN : Addr} {fd fdA fdC fdN : FuncData} (F : Fun K "step_by" "step_by" sStepBy f fd) (FA : Fun K "add_step" "add_step" sAddStep fA fdA) (bA : Binds K fdA ["factor", "row", "place"] []) (gA : mg "add_step" = some (.ref fA))
    (GC : FnOk P w K mg base (L2.CX P w) 2 fC fdC ["factor"] (spXIn K 1 30 (D 0))) (kC : PySem.W.keepIn K (.ref fC) = true) (bC : Binds K fdC ["factor"] []) (gC : mg "check_factor" = some (.ref fC))
    (GN : FnOk P w K mg base (L2.CX P w) 2 fN fdN ["number"] (spXIn K 0 3000 (D 3))) (kN : PySem.W.keepIn K (.ref fN) = true) (bN : Binds K fdN ["number"] []) (gN : mg "check_number" = some (.ref fN)) (mr : mg "range" = none) :
    FnOk P w K mg base (L2.CX P w) 3 f fd ["factor", "number"] (spXStepBy K D) := by
  have GA : FnOk P w K mg base CX0 1 fA fdA ["factor", "row", "place"] spAddStep := ok_add_step FA
  refine F.okX scStepByX (fun vs H Q E h => ?_) (fun cdv A outer s H vs Q E hr h => ?_)
  · obtain ⟨v1, v2, bf, bn, rfl, _⟩ := h
    rfl
  · obtain ⟨v1, v2, bf, bn, rfl, hf, hh, q0, q1, q⟩ := h
    refine ⟨_, pss_cons (ps_expr (pe_call GC hr (by rfl) gC kC bC .nil (passes_call (takes_of rfl rfl rfl rfl) (fun _ _ _ _ h => h)) (pa_cons (pv 0) pa_nil))) (pss_cons (ps_expr (pe_call GN hr (by rfl) gN kN bN .nil (passes_call (takes_of rfl rfl rfl rfl) (fun _ _ _ _ h => h)) (pa_cons (pv 1) pa_nil)))
      (pss_cons (ps_set (i := 2) scStepByX.nd rfl (Or.inl rfl) (pe_lst (pa_cons pe_int pa_nil))) (pss_cons (ps_set (i := 3) scStepByX.nd rfl (Or.inl rfl) pe_int)
      (pss_cons (ps_for (passes_of rfl) rfl (pi_range1 (by rfl) mr (pa_cons (pv 1) pa_nil)) (pg_name (i := 4) scStepByX.nd rfl (Or.inl rfl))
        (pss_one (ps_set (i := 3) scStepByX.nd rfl (Or.inl rfl) (pe_call GA (hr.mono (by decide)) (by rfl) gA FA.kp bA .nil pass0 (pa_cons (pv 0) (pa_cons (pv 2) (pa_cons (pv 3) pa_nil)))))))
      (pss_one (ps_ret (pe_ix ix_list (pv 2) (pe_un un_neg pe_int) (fun _ _ => rfl)))))))), ?_⟩
    refine ⟨v1, rfl, v1, bf, rfl, hf, fun ef => ?_, q0⟩
    refine ⟨v2, rfl, v2, bn, rfl, hh, fun eh => ?_, q1 ef⟩
    obtain ⟨f, k, rfl, rfl, h1, h30, k0, k1, q⟩ := q ef eh
    refine ⟨(by show 1 ≤ sizeLine; decide), fun r nr => ?_⟩
    refine ⟨_, rfl, k, rfl, by omega, by omega, for_range (n := k.toNat) (fun i σ H' => ∃ (p : Int) (v : Option V), σ = [some (.int f), some (.int k), some (.ref r), some (.int p), v] ∧ Same H H' ∧ H' r = some (.lst (rowV f i)) ∧ Place f i p) ⟨0, none, rfl, same_upd nr, upd_same, place_zero f⟩ ?_ ?_⟩
    · rintro i σ H' hi ⟨p, v, rfl, sm, hR, hp⟩
      exact ⟨_, rfl, _, rfl, _, rfl, f, r, p, i, rfl, h1, h30, hR, hp, by omega, fun p' hp' => ⟨p', _, rfl, same_new sm nr, upd_same, hp'⟩⟩
    · rintro σ H' ⟨p, v, rfl, sm, hR, hp⟩
      exact ⟨.ref r, rfl, 1, rfl, r, _, _, _, rfl, rfl, SqL.of hR, rowV_last f _, q H' sm⟩
/-! ### check_whole_parts, that may refuse -/
/-- v is a list of whole numbers from m on, or is none -/
def ListIs (K : PySem.W.Frag) (H : Hp) (m : Int) (v : V) (b : Bool) : Prop := (∃ ty, TyB K H v ty ∧ ty ≠ "list" ∧ b = false) ∨
  ∃ (a : Addr) (xs : List V) (bs : List Bool), v = .ref a ∧ SqL K H a xs ∧ bs.length = xs.length ∧ (∀ (i : Nat) (y : V) (b : Bool), xs[i]? = some y → bs[i]? = some b → WholeIs K H m y b) ∧ b = bs.all id
def spXParts (K : PySem.W.Frag) (T C : Addr) : Sp := fun vs H Q E => ∃ v b, vs = [v] ∧ ListIs K H 1 v b ∧ GxR.TabG H T ∧ (b = true → ∀ H', Sm H H' → Q .non H') ∧ (b = false → ∀ H', Sm H H' → E (.ref C) none H')
theorem scCkPartsX : FnScope ["parts"] ["parts"] (defScope sCkParts) := ⟨rfl, rfl, rfl, by decide +kernel, rfl, by decide +kernel, by decide +kernel⟩
theorem ok_x_parts {f fW T C : Addr} {fd fdW : FuncData} (F : Fun K "check_whole_parts" "check_whole_parts" sCkParts f fd)
    (GW : FnOk P w K mg base CX0 3 fW fdW ["numbers", "least"] (spIsWholeList K T)) (kW : PySem.W.keepIn K (.ref fW) = true) (bW : Binds K fdW ["numbers", "least"] []) (gW : mg "is_whole_list" = some (.ref fW)) (X : ExF K mg "BadSum" C) :
    FnOk P w K mg base (L2.CX P w) 4 f fd ["parts"] (spXParts K T C) := by
  refine F.okX scCkPartsX (fun vs H Q E h => ?_) (fun cdv A outer s H vs Q E hr h => ?_)
  · obtain ⟨v, b, rfl, _⟩ := h
    rfl
  · obtain ⟨v, b, rfl, hv, hT, qT, qF⟩ := h
    refine ⟨_, pss_one (ps_if (pt_not (pt_val (pe_call GW hr (by rfl) gW kW bW .nil pass0 (pa_cons (pv 0) (pa_cons pe_int pa_nil))))) (pss_one (ps_raise rfl (takes_of rfl rfl rfl rfl) (pmk_own PySem.F.excBase_ValueError X.x X.g X.k (raises_own X.b X.t) rfl))) pss_nil), ?_⟩
    refine ⟨v, rfl, v, 1, rfl, hT, ?_⟩
    rcases hv with ⟨ty, hty, ne, rfl⟩ | ⟨a, xs, bs, rfl, hL, hlen, hbs, rfl⟩
    · exact .inl ⟨ty, hty, ne, _, rfl, iteT (qF rfl H (Sm.refl H))⟩
    · refine .inr ⟨a, xs, bs, rfl, hL, hlen, hbs, fun H' h => ⟨_, rfl, ?_⟩⟩
      cases e : bs.all id with
      | true => exact iteF (qT e H' (Sm.tabbed hT h))
      | false => exact iteT (qF e H' (Sm.tabbed hT h))
/-! ### whole, that may refuse -/
def spXWhole (K : PySem.W.Frag) (D : Nat → Addr) (T : Addr) : Sp := fun vs H Q E => ∃ v1 v2 bf, vs = [v1, v2] ∧ FacIs K H 1 30 v1 bf ∧ (bf = false → E (.ref (D 0)) none H) ∧
  (bf = true → ∃ (f : Int) (b : Bool), v1 = .int f ∧ 1 ≤ f ∧ f ≤ 30 ∧ ListIs K H 1 v2 b ∧ GxR.TabG H T ∧ (b = false → ∀ H', Sm H H' → E (.ref (D 4)) none H') ∧
    (b = true → ∃ (a : Addr) (ns : List Int), v2 = .ref a ∧ SqL K H a (ns.map V.int) ∧ 0 ≤ ns.sum ∧ ns.sum < Bd ∧ (ns ≠ parts f ns.sum → ∀ H', Sm H H' → E (.ref (D 4)) none H') ∧ (ns = parts f ns.sum → ∀ H', Sm H H' → Q (.int ns.sum) H')))
theorem scWholeX : FnScope ["factor", "parts", "total"] ["factor", "parts"] (defScope sWhole) := ⟨rfl, rfl, rfl, by decide +kernel, rfl, by decide +kernel, by decide +kernel⟩
theorem ok_x_whole {D : Nat → Addr} {f fS fC fN T : Addr} {fd fdS fdC fdN : FuncData} (F : Fun K "whole" "whole" sWhole f fd)
    (GS : FnOk P w K mg base (L2.CX P w) 3 fS fdS ["factor", "heap"] (spXSumOf K D)) (kS : PySem.W.keepIn K (.ref fS) = true) (bS : Binds K fdS ["factor", "heap"] []) (gS : mg "sum_of" = some (.ref fS))
    (GC : FnOk P w K mg base (L2.CX P w) 2 fC fdC ["factor"] (spXIn K 1 30 (D 0))) (kC : PySem.W.keepIn K (.ref fC) = true) (bC : Binds K fdC ["factor"] []) (gC : mg "check_factor" = some (.ref fC))
    (GN : FnOk P w K mg base (L2.CX P w) 4 fN fdN ["parts"] (spXParts K T (D 4))) (kN : PySem.W.keepIn K (.ref fN) = true) (bN : Binds K fdN ["parts"] []) (gN : mg "check_whole_parts" = some (.ref fN)) (ms : mg "sum" = none) (X : ExF K mg "BadSum" (D 4)) :
    FnOk P w K mg base (L2.CX P w) 5 f fd ["factor", "parts"] (spXWhole K D T) := by
  refine F.okX scWholeX (fun vs H Q E h => ?_) (fun cdv A outer s H vs Q E hr h => ?_)
  · obtain ⟨v1, v2, bf, rfl, _⟩ := h
    rfl
  · obtain ⟨v1, v2, bf, rfl, hf, q0, q⟩ := h
    have hr2 : Room 2 _ := hr.mono (by decide)
    refine ⟨_, pss_cons (ps_expr (pe_call GC hr2 (by rfl) gC kC bC .nil (passes_call (takes_of rfl rfl rfl rfl) (fun _ _ _ _ h => h)) (pa_cons (pv 0) pa_nil))) (pss_cons (ps_expr (pe_call GN hr (by rfl) gN kN bN .nil (passes_call (takes_of rfl rfl rfl rfl) (fun _ _ _ _ h => h)) (pa_cons (pv 1) pa_nil)))
      (pss_cons (ps_set (i := 2) scWholeX.nd rfl (Or.inl rfl) (pe_callB (cr_sum rfl) (by rfl) ms (by decide +kernel) (pa_cons (pv 1) pa_nil)))
      (pss_cons (ps_if (pt_cmpR (op_neL hr.units) (pv 1) (pe_call GS (hr.mono (by decide)) (by rfl) gS kS bS .nil (passes_call (takes_of rfl rfl rfl rfl) (fun _ _ _ _ h => h)) (pa_cons (pv 0) (pa_cons (pv 2) pa_nil))) (nomark _))
        (pss_one (ps_raise rfl (takes_of rfl rfl rfl rfl) (pmk_own PySem.F.excBase_ValueError X.x X.g X.k (raises_own X.b X.t) rfl))) pss_nil)
      (pss_one (ps_ret (pv 2)))))), ?_⟩
    refine ⟨v1, rfl, v1, bf, rfl, hf, fun ef => ?_, q0⟩
    obtain ⟨f, b, rfl, h1, h30, hv, hT, qF, q⟩ := q ef
    refine ⟨v2, rfl, v2, b, rfl, hv, hT, fun eb H0 sm0 => ?_, qF⟩
    obtain ⟨a, ns, rfl, hL, n0, nB, qN, qE⟩ := q eb
    refine ⟨_, rfl, a, _, rfl, sm0.seq hL, ?_⟩
    refine ⟨_, rfl, _, rfl, _, rfl, .int f, .int ns.sum, true, true, rfl, ⟨"int", .int f, .inl ⟨f, rfl, by rw [decide_eq_true h1, decide_eq_true h30]; rfl⟩⟩, ⟨"int", .int _, .inl ⟨_, rfl, by rw [decide_eq_true n0]⟩⟩, fun z => Bool.noConfusion z, fun _ z => Bool.noConfusion z, fun _ _ =>
      ⟨f, ns.sum, rfl, rfl, h1, h30, n0, nB, fun r H1 _ sm nr hR => ?_⟩⟩
    refine ⟨a, r, _, _, rfl, rfl, (Sm.of sm).seq (sm0.seq hL), SqL.of hR, _, rfl, ?_⟩
    by_cases e : ns = parts f ns.sum
    · rw [decide_eq_true e]
      exact iteF ⟨_, rfl, qE e H1 (sm0.trans (Sm.of sm))⟩
    · rw [decide_eq_false e]
      exact iteT (qN e H1 (sm0.trans (Sm.of sm)))
end
end TA
set_option Elab.async false
set_option linter.all false
set_option maxRecDepth 100000
set_option maxHeartbeats 4000000
namespace TA
open PySem PySem.Spec PyProof.Rows L2
section
variable {P : Program} {w : World} {K : PySem.W.Frag} {mg : Str → Option Value} {base : Heap}
theorem fac_int {H : Hp} {lo hi n : Int} : FacIs K H lo hi (.int n) (decide (lo ≤ n) && decide (n ≤ hi)) := ⟨"int", .int n, .inl ⟨n, rfl, rfl⟩⟩
theorem fac_yes {H : Hp} {lo hi n : Int} (h1 : lo ≤ n) (h2 : n ≤ hi) : FacIs K H lo hi (.int n) true := ⟨"int", .int n, .inl ⟨n, rfl, by rw [decide_eq_true h1, decide_eq_true h2]; rfl⟩⟩
theorem who_int {H : Hp} {m n : Int} : WholeIs K H m (.int n) (decide (m ≤ n)) := ⟨"int", .int n, .inl ⟨n, rfl, rfl⟩⟩
theorem who_yes {H : Hp} {m n : Int} (h : m ≤ n) : WholeIs K H m (.int n) true := ⟨"int", .int n, .inl ⟨n, rfl, by rw [decide_eq_true h]⟩⟩
theorem who_non {H : Hp} {m : Int} : WholeIs K H m .non false := ⟨_, .non, .inr ⟨by decide, rfl⟩⟩
theorem nft {p : Prop} (z : false = true) : p := Bool.noConfusion z
theorem ntf {p : Prop} (z : true = false) : p := Bool.noConfusion z
/-! ### the law's askers -/
def spWithFactor (K : PySem.W.Frag) (D : Nat → Addr) : Sp := fun vs H Q E => ∃ (d : Int) (v : V), vs = [.int d, v] ∧ FacIs K H 1 30 v false ∧ E (.ref (D 0)) none H
def spWithHeap (K : PySem.W.Frag) (D : Nat → Addr) : Sp := fun vs H Q E => ∃ (d : Int) (v : V), vs = [.int d, v] ∧ WholeIs K H 0 v false ∧ E (.ref (D 1)) none H
def spWithLimit (K : PySem.W.Frag) (D : Nat → Addr) : Sp := fun vs H Q E => ∃ (d : Int) (v : V), vs = [.int d, v] ∧ WholeIs K H 0 v false ∧ E (.ref (D 2)) none H
def spWithNumber (K : PySem.W.Frag) (D : Nat → Addr) : Sp := fun vs H Q E => ∃ (d : Int) (v : V), vs = [.int d, v] ∧ 0 ≤ d ∧ d ≤ 1 ∧ FacIs K H 0 3000 v false ∧ E (.ref (D 3)) none H
/-- v is no sum by f -/
def BadParts (K : PySem.W.Frag) (H : Hp) (f : Int) (v : V) : Prop := ListIs K H 1 v false ∨ ∃ (a : Addr) (ns : List Int), v = .ref a ∧ SqL K H a (ns.map V.int) ∧ (∀ n ∈ ns, 1 ≤ n) ∧ 0 ≤ ns.sum ∧ ns.sum < Bd ∧ ns ≠ parts f ns.sum
def spWithSum (K : PySem.W.Frag) (D : Nat → Addr) (T : Addr) : Sp := fun vs H Q E => ∃ (f : Int) (v : V), vs = [.int f, v] ∧ 1 ≤ f ∧ f ≤ 30 ∧ BadParts K H f v ∧ GxR.TabG H T ∧ ∀ H', Sm H H' → E (.ref (D 4)) none H'
def spWithTaking (K : PySem.W.Frag) (D : Nat → Addr) : Sp := fun vs H Q E => ∃ (a : Addr) (f h l : Int) (v : V), vs = [.ref a, v] ∧ SqT K H a [.int f, .int h, .int l] ∧ 1 ≤ f ∧ f ≤ 30 ∧ 0 ≤ h ∧ 0 ≤ l ∧ TakIs K H h l v false ∧ E (.ref (D 5)) none H
theorem scWithFactor : FnScope ["_law_door", "_law_factor_here"] ["_law_door", "_law_factor_here"] (defScope sLawWithFactor) := ⟨rfl, rfl, rfl, by decide +kernel, rfl, by decide +kernel, by decide +kernel⟩
theorem ok_WithFactor {D : Nat → Addr} {f fS fN fW fT fB T : Addr} {fd fdS fdN fdW fdT fdB : FuncData} (F : Fun K "_law_with_factor" "_law_with_factor" sLawWithFactor f fd)
    (GS : FnOk P w K mg base (L2.CX P w) 3 fS fdS ["factor", "heap"] (spXSumOf K D)) (kS : PySem.W.keepIn K (.ref fS) = true) (bS : Binds K fdS ["factor", "heap"] []) (gS : mg "sum_of" = some (.ref fS))
    (GN : FnOk P w K mg base (L2.CX P w) 3 fN fdN ["factor", "number"] (spXStepBy K D)) (kN : PySem.W.keepIn K (.ref fN) = true) (bN : Binds K fdN ["factor", "number"] []) (gN : mg "step_by" = some (.ref fN))
    (GW : FnOk P w K mg base (L2.CX P w) 5 fW fdW ["factor", "parts"] (spXWhole K D T)) (kW : PySem.W.keepIn K (.ref fW) = true) (bW : Binds K fdW ["factor", "parts"] []) (gW : mg "whole" = some (.ref fW))
    (GT : FnOk P w K mg base (L2.CX P w) 4 fT fdT ["factor", "heap", "limit"] (spXTold K D)) (kT : PySem.W.keepIn K (.ref fT) = true) (bT : Binds K fdT ["factor", "heap", "limit"] []) (gT : mg "told" = some (.ref fT))
    (GB : FnOk P w K mg base (L2.CX P w) 4 fB fdB ["factor", "heap", "limit", "taking"] (spXBehind K D)) (kB : PySem.W.keepIn K (.ref fB) = true) (bB : Binds K fdB ["factor", "heap", "limit", "taking"] []) (gB : mg "behind" = some (.ref fB)) :
    FnOk P w K mg base (L2.CX P w) 6 f fd ["_law_door", "_law_factor_here"] (spWithFactor K D) := by
  refine F.okX scWithFactor (fun vs H Q E h => ?_) (fun cdv A outer s H vs Q E hr h => ?_)
  · obtain ⟨d, v, rfl, _⟩ := h
    rfl
  · obtain ⟨d, v, rfl, hf, q⟩ := h
    refine ⟨_, pss_cons (ps_if (pt_cmpR op_lt (pv 0) pe_int (nomark _)) (pss_one (ps_ret (pe_ifExp (pt_cmpR op_eq (pv 0) pe_int (nomark _)) (pe_call GN (hr.mono (by decide)) (by rfl) gN kN bN .nil (passes_call (takes_of rfl rfl rfl rfl) (fun _ _ _ _ h => h)) (pa_cons (pv 1) (pa_cons (pe_un un_neg pe_int) pa_nil))) (pe_ifExp (pt_cmpR op_eq (pv 0) pe_int (nomark _)) (pe_call GS (hr.mono (by decide)) (by rfl) gS kS bS .nil (passes_call (takes_of rfl rfl rfl rfl) (fun _ _ _ _ h => h)) (pa_cons (pv 1) (pa_cons (pe_un un_neg pe_int) pa_nil))) (pe_call GW (hr.mono (by decide)) (by rfl) gW kW bW .nil (passes_call (takes_of rfl rfl rfl rfl) (fun _ _ _ _ h => h)) (pa_cons (pv 1) (pa_cons pe_non pa_nil))))))) pss_nil) (pss_one (ps_ret (pe_ifExp (pt_cmpR op_eq (pv 0) pe_int (nomark _)) (pe_call GT (hr.mono (by decide)) (by rfl) gT kT bT .nil (passes_call (takes_of rfl rfl rfl rfl) (fun _ _ _ _ h => h)) (pa_cons (pv 1) (pa_cons (pe_un un_neg pe_int) (pa_cons (pe_un un_neg pe_int) pa_nil)))) (pe_call GB (hr.mono (by decide)) (by rfl) gB kB bB .nil (passes_call (takes_of rfl rfl rfl rfl) (fun _ _ _ _ h => h)) (pa_cons (pv 1) (pa_cons pe_non (pa_cons pe_non (pa_cons pe_non pa_nil)))))))), ?_⟩
    refine ⟨_, rfl, _, _, rfl, rfl, _, rfl, ?_⟩
    refine ite2 (fun c => ?_) (fun c => ?_)
    · refine ⟨_, rfl, rfl, _, rfl, ?_⟩
      refine ite2 (fun c => ?_) (fun c => ?_)
      · exact ⟨v, rfl, _, rfl, v, .int (-1), false, _, rfl, hf, fac_int, fun _ => q, fun z => nft z, fun z => nft z⟩
      · refine ⟨_, rfl, rfl, _, rfl, ?_⟩
        refine ite2 (fun c => ?_) (fun c => ?_)
        · exact ⟨v, rfl, _, rfl, v, .int (-1), false, _, rfl, hf, who_int, fun _ => q, fun z => nft z, fun z => nft z⟩
        · exact ⟨v, rfl, v, _, false, rfl, hf, fun _ => q, fun z => nft z⟩
    · refine ⟨_, rfl, rfl, _, rfl, ?_⟩
      refine ite2 (fun c => ?_) (fun c => ?_)
      · exact ⟨v, rfl, _, rfl, _, rfl, v, .int (-1), .int (-1), false, _, _, rfl, hf, who_int, who_int, fun _ => q, fun z => nft z, fun z => nft z, fun z => nft z⟩
      · exact ⟨v, rfl, v, .non, .non, .non, false, _, _, rfl, hf, who_non, who_non, fun _ => q, fun z => nft z, fun z => nft z, fun z => nft z⟩
theorem scWithHeap : FnScope ["_law_door", "_law_heap"] ["_law_door", "_law_heap"] (defScope sLawWithHeap) := ⟨rfl, rfl, rfl, by decide +kernel, rfl, by decide +kernel, by decide +kernel⟩
theorem ok_WithHeap {D : Nat → Addr} {f fS fT fB T : Addr} {fd fdS fdT fdB : FuncData} (F : Fun K "_law_with_heap" "_law_with_heap" sLawWithHeap f fd)
    (GS : FnOk P w K mg base (L2.CX P w) 3 fS fdS ["factor", "heap"] (spXSumOf K D)) (kS : PySem.W.keepIn K (.ref fS) = true) (bS : Binds K fdS ["factor", "heap"] []) (gS : mg "sum_of" = some (.ref fS))
    (GT : FnOk P w K mg base (L2.CX P w) 4 fT fdT ["factor", "heap", "limit"] (spXTold K D)) (kT : PySem.W.keepIn K (.ref fT) = true) (bT : Binds K fdT ["factor", "heap", "limit"] []) (gT : mg "told" = some (.ref fT))
    (GB : FnOk P w K mg base (L2.CX P w) 4 fB fdB ["factor", "heap", "limit", "taking"] (spXBehind K D)) (kB : PySem.W.keepIn K (.ref fB) = true) (bB : Binds K fdB ["factor", "heap", "limit", "taking"] []) (gB : mg "behind" = some (.ref fB)) :
    FnOk P w K mg base (L2.CX P w) 6 f fd ["_law_door", "_law_heap"] (spWithHeap K D) := by
  refine F.okX scWithHeap (fun vs H Q E h => ?_) (fun cdv A outer s H vs Q E hr h => ?_)
  · obtain ⟨d, v, rfl, _⟩ := h
    rfl
  · obtain ⟨d, v, rfl, hh, q⟩ := h
    refine ⟨_, pss_one (ps_ret (pe_ifExp (pt_cmpR op_eq (pv 0) pe_int (nomark _)) (pe_call GS (hr.mono (by decide)) (by rfl) gS kS bS .nil (passes_call (takes_of rfl rfl rfl rfl) (fun _ _ _ _ h => h)) (pa_cons pe_int (pa_cons (pv 1) pa_nil))) (pe_ifExp (pt_cmpR op_eq (pv 0) pe_int (nomark _)) (pe_call GT (hr.mono (by decide)) (by rfl) gT kT bT .nil (passes_call (takes_of rfl rfl rfl rfl) (fun _ _ _ _ h => h)) (pa_cons pe_int (pa_cons (pv 1) (pa_cons (pe_un un_neg pe_int) pa_nil)))) (pe_call GB (hr.mono (by decide)) (by rfl) gB kB bB .nil (passes_call (takes_of rfl rfl rfl rfl) (fun _ _ _ _ h => h)) (pa_cons pe_int (pa_cons (pv 1) (pa_cons pe_non (pa_cons pe_int pa_nil)))))))), ?_⟩
    refine ⟨_, rfl, rfl, _, rfl, ?_⟩
    refine ite2 (fun c => ?_) (fun c => ?_)
    · exact ⟨v, rfl, .int 2, v, true, false, rfl, fac_yes (by decide) (by decide), hh, fun z => ntf z, fun _ _ => q, fun _ z => nft z⟩
    · refine ⟨_, rfl, rfl, _, rfl, ?_⟩
      refine ite2 (fun c => ?_) (fun c => ?_)
      · exact ⟨v, rfl, _, rfl, .int 30, v, .int (-1), true, false, _, rfl, fac_yes (by decide) (by decide), hh, who_int, fun z => ntf z, fun _ _ => q, fun _ z => nft z, fun _ z => nft z⟩
      · exact ⟨v, rfl, .int 1, v, .non, .int 0, true, false, false, rfl, fac_yes (by decide) (by decide), hh, who_non, fun z => ntf z, fun _ _ => q, fun _ z => nft z, fun _ z => nft z⟩
theorem scWithLimit : FnScope ["_law_door", "_law_limit"] ["_law_door", "_law_limit"] (defScope sLawWithLimit) := ⟨rfl, rfl, rfl, by decide +kernel, rfl, by decide +kernel, by decide +kernel⟩
theorem ok_WithLimit {D : Nat → Addr} {f fT fB T : Addr} {fd fdT fdB : FuncData} (F : Fun K "_law_with_limit" "_law_with_limit" sLawWithLimit f fd)
    (GT : FnOk P w K mg base (L2.CX P w) 4 fT fdT ["factor", "heap", "limit"] (spXTold K D)) (kT : PySem.W.keepIn K (.ref fT) = true) (bT : Binds K fdT ["factor", "heap", "limit"] []) (gT : mg "told" = some (.ref fT))
    (GB : FnOk P w K mg base (L2.CX P w) 4 fB fdB ["factor", "heap", "limit", "taking"] (spXBehind K D)) (kB : PySem.W.keepIn K (.ref fB) = true) (bB : Binds K fdB ["factor", "heap", "limit", "taking"] []) (gB : mg "behind" = some (.ref fB)) :
    FnOk P w K mg base (L2.CX P w) 6 f fd ["_law_door", "_law_limit"] (spWithLimit K D) := by
  refine F.okX scWithLimit (fun vs H Q E h => ?_) (fun cdv A outer s H vs Q E hr h => ?_)
  · obtain ⟨d, v, rfl, _⟩ := h
    rfl
  · obtain ⟨d, v, rfl, hh, q⟩ := h
    refine ⟨_, pss_one (ps_ret (pe_ifExp (pt_cmpR op_eq (pv 0) pe_int (nomark _)) (pe_call GT (hr.mono (by decide)) (by rfl) gT kT bT .nil (passes_call (takes_of rfl rfl rfl rfl) (fun _ _ _ _ h => h)) (pa_cons pe_int (pa_cons pe_int (pa_cons (pv 1) pa_nil)))) (pe_call GB (hr.mono (by decide)) (by rfl) gB kB bB .nil (passes_call (takes_of rfl rfl rfl rfl) (fun _ _ _ _ h => h)) (pa_cons pe_int (pa_cons pe_int (pa_cons (pv 1) (pa_cons pe_non pa_nil))))))), ?_⟩
    refine ⟨_, rfl, rfl, _, rfl, ?_⟩
    refine ite2 (fun c => ?_) (fun c => ?_)
    · exact ⟨v, rfl, .int 3, .int 9, v, true, true, false, rfl, fac_yes (by decide) (by decide), who_yes (by decide), hh, fun z => ntf z, fun _ z => ntf z, fun _ _ _ => q, fun _ _ z => nft z⟩
    · exact ⟨v, rfl, .int 3, .int 9, v, .non, true, true, false, rfl, fac_yes (by decide) (by decide), who_yes (by decide), hh, fun z => ntf z, fun _ z => ntf z, fun _ _ _ => q, fun _ _ z => nft z⟩
theorem scWithNumber : FnScope ["_law_door", "_law_number"] ["_law_door", "_law_number"] (defScope sLawWithNumber) := ⟨rfl, rfl, rfl, by decide +kernel, rfl, by decide +kernel, by decide +kernel⟩
theorem ok_WithNumber {D : Nat → Addr} {f fN T : Addr} {fd fdN : FuncData} (F : Fun K "_law_with_number" "_law_with_number" sLawWithNumber f fd)
    (GN : FnOk P w K mg base (L2.CX P w) 3 fN fdN ["factor", "number"] (spXStepBy K D)) (kN : PySem.W.keepIn K (.ref fN) = true) (bN : Binds K fdN ["factor", "number"] []) (gN : mg "step_by" = some (.ref fN)) :
    FnOk P w K mg base (L2.CX P w) 6 f fd ["_law_door", "_law_number"] (spWithNumber K D) := by
  refine F.okX scWithNumber (fun vs H Q E h => ?_) (fun cdv A outer s H vs Q E hr h => ?_)
  · obtain ⟨d, v, rfl, _⟩ := h
    rfl
  · obtain ⟨d, v, rfl, d0, d1, hh, q⟩ := h
    refine ⟨_, pss_one (ps_ret (pe_call GN (hr.mono (by decide)) (by rfl) gN kN bN .nil (passes_call (takes_of rfl rfl rfl rfl) (fun _ _ _ _ h => h)) (pa_cons (pe_op op_sub pe_int (pe_op op_mul pe_int (pv 0))) (pa_cons (pv 1) pa_nil)))), ?_⟩
    exact ⟨_, rfl, 29, d, rfl, rfl, .inl ⟨by decide, by decide⟩, 30, _, rfl, rfl, v, rfl, .int (30 - 29 * d), v, true, false, rfl, fac_yes (by omega) (by omega), hh, fun z => ntf z, fun _ _ => q, fun _ z => nft z⟩
theorem scWithSum : FnScope ["_law_factor_here", "_law_parts"] ["_law_factor_here", "_law_parts"] (defScope sLawWithSum) := ⟨rfl, rfl, rfl, by decide +kernel, rfl, by decide +kernel, by decide +kernel⟩
theorem ok_WithSum {D : Nat → Addr} {f fW T : Addr} {fd fdW : FuncData} (F : Fun K "_law_with_sum" "_law_with_sum" sLawWithSum f fd)
    (GW : FnOk P w K mg base (L2.CX P w) 5 fW fdW ["factor", "parts"] (spXWhole K D T)) (kW : PySem.W.keepIn K (.ref fW) = true) (bW : Binds K fdW ["factor", "parts"] []) (gW : mg "whole" = some (.ref fW)) :
    FnOk P w K mg base (L2.CX P w) 6 f fd ["_law_factor_here", "_law_parts"] (spWithSum K D T) := by
  refine F.okX scWithSum (fun vs H Q E h => ?_) (fun cdv A outer s H vs Q E hr h => ?_)
  · obtain ⟨d, v, rfl, _⟩ := h
    rfl
  · obtain ⟨f, v, rfl, h1, h30, hb, hT, q⟩ := h
    refine ⟨_, pss_one (ps_ret (pe_call GW (hr.mono (by decide)) (by rfl) gW kW bW .nil (passes_call (takes_of rfl rfl rfl rfl) (fun _ _ _ _ h => h)) (pa_cons (pv 0) (pa_cons (pv 1) pa_nil)))), ?_⟩
    refine ⟨_, rfl, v, rfl, .int f, v, true, rfl, fac_yes h1 h30, fun z => ntf z, fun _ => ?_⟩
    rcases hb with hb | ⟨a, ns, rfl, hL, hp, n0, nB, ne⟩
    · exact ⟨f, false, rfl, h1, h30, hb, hT, fun _ => q, fun z => nft z⟩
    · exact ⟨f, true, rfl, h1, h30, .inr ⟨a, _, _, rfl, hL, wl_len, wl_each, (wl_true hp).symm⟩, hT, fun z => ntf z, fun _ => ⟨a, ns, rfl, hL, n0, nB, fun _ => q, fun e => absurd e ne⟩⟩
theorem scWithTaking : FnScope ["_law_where", "_law_taking", "_law_factor_here", "_law_heap", "_law_limit"] ["_law_where", "_law_taking"] (defScope sLawWithTaking) := ⟨rfl, rfl, rfl, by decide +kernel, rfl, by decide +kernel, by decide +kernel⟩
theorem ok_WithTaking {D : Nat → Addr} {f fB T : Addr} {fd fdB : FuncData} (F : Fun K "_law_with_taking" "_law_with_taking" sLawWithTaking f fd)
    (GB : FnOk P w K mg base (L2.CX P w) 4 fB fdB ["factor", "heap", "limit", "taking"] (spXBehind K D)) (kB : PySem.W.keepIn K (.ref fB) = true) (bB : Binds K fdB ["factor", "heap", "limit", "taking"] []) (gB : mg "behind" = some (.ref fB)) :
    FnOk P w K mg base (L2.CX P w) 6 f fd ["_law_where", "_law_taking"] (spWithTaking K D) := by
  refine F.okX scWithTaking (fun vs H Q E h => ?_) (fun cdv A outer s H vs Q E hr h => ?_)
  · obtain ⟨a, f, h, l, v, rfl, _⟩ := h
    rfl
  · obtain ⟨a, f, h, l, v, rfl, hT, h1, h30, h0, l0, ht, q⟩ := h
    refine ⟨_, pss_cons (ps_asg (pv 0) (pg_tup (by rfl) (pgs_cons (pg_name (i := 2) scWithTaking.nd rfl (Or.inl rfl)) (pgs_cons (pg_name (i := 3) scWithTaking.nd rfl (Or.inl rfl)) (pgs_cons (pg_name (i := 4) scWithTaking.nd rfl (Or.inl rfl)) pgs_nil))))) (pss_one (ps_ret (pe_call GB (hr.mono (by decide)) (by rfl) gB kB bB .nil (passes_call (takes_of rfl rfl rfl rfl) (fun _ _ _ _ h => h)) (pa_cons (pv 2) (pa_cons (pv 3) (pa_cons (pv 4) (pa_cons (pv 1) pa_nil))))))), ?_⟩
    refine ⟨_, rfl, a, _, rfl, hT, rfl, _, _, rfl, _, _, rfl, _, _, rfl, rfl, ?_⟩
    exact ⟨_, rfl, _, rfl, _, rfl, v, rfl, .int f, .int h, .int l, v, true, true, true, rfl, fac_yes h1 h30, who_yes h0, who_yes l0, fun z => ntf z, fun _ z => ntf z, fun _ _ z => ntf z, fun _ _ _ => ⟨f, h, l, false, rfl, rfl, rfl, h1, h30, ht, fun _ => q, fun z => nft z⟩⟩
end
end TA
set_option Elab.async false
set_option linter.all false
set_option maxRecDepth 100000
set_option maxHeartbeats 4000000
namespace TA
open PySem PySem.Spec PyProof.Rows L2
/-! ### a def that is called within an except suite with the exception; nothing is known of its context -/
structure FnK (P : Program) (w : World) (K : PySem.W.Frag) (mg : Str → Option Value) (base : Heap) (k : Nat) (f : Addr) (fd : FuncData) (ps : List Str) (sp : (Addr × Obj) → Sp) : Prop where
  len : ∀ p vs H Q E, sp p vs H Q E → vs.length = ps.length
  run : ∀ (A : Around) (outer : List Env) (s : Shared) (H : Hp) (args : Args) (us : List Value) (vs : List V) (Q : VK) (E : XK) (p : Addr × Obj), L2H.RoomH k A → L2H.PinOk outer H s p → Env0 P w K mg base A outer s H → BindsTo s fd args (ps.zip us) → Vals vs us → sp p vs H Q E →
    codeAny (model P w) A (.call (.ref f) args) (CR CX0 outer P w H s Q E) s
theorem fnK_of {P : Program} {w : World} {K : PySem.W.Frag} {mg : Str → Option Value} {base : Heap} {k : Nat} {f : Addr} {name qual : Str} {params : Arguments} {body : List Stmt} {scope : Scope} {dV kV doc pm cdv ct oc : Value} {an od : Option Addr}
    {osl : Array (Option Value)} {N ps : List Str} {sp : (Addr × Obj) → Sp} (lk : K.lookup f = some ⟨oc, od, .func (PySem.W.fnOf name qual params body scope dV kV doc pm an cdv ct), osl⟩) (hcd : PySem.W.codeIn K cdv qual = true) (S : FnScope N ps scope)
    (len : ∀ p vs H Q E, sp p vs H Q E → vs.length = ps.length)
    (hbody : ∀ (A : Around) (outer : List Env) (s : Shared) (H : Hp) (vs : List V) (Q : VK) (E : XK) (p : Addr × Obj), L2H.RoomH k (A.deeper (envOfC qual scope s.heap.objs.size f cdv)) → sp p vs H Q E →
      ∃ t, PSs (L2H.cxH CX0 P w K mg base N qual scope f cdv A outer s H E p) body t ∧ t { nx := fun _ H' => Q .non H', rt := Q } (L2.start N vs) H) :
    FnK P w K mg base (k + 1) f (PySem.W.fnOf name qual params body scope dV kV doc pm an cdv ct) ps sp := by
  refine ⟨len, fun A outer s H args us vs Q E p hr hpin e0 hb r hsp => ?_⟩
  have hl := len _ _ _ _ _ hsp
  have KX : K.In s.heap := e0.mod.kin.keeps fun b o e => (e0.bs b o e).1
  have lim : s.heap.NoLimit := e0.mod.nolimit.keeps fun b o e => (e0.bs b o e).1
  have hkind : ∀ y ∈ ps.zip us, scope.names.lookup y.1 = some .local ∨ (scope.names.lookup y.1 = some .cell ∧ ((cellsFrom (s.heap.objs.size + 1) scope.names []).lookup y.1).isSome = true) := fun ⟨n, v⟩ hy => by
    rcases S.par n (List.of_mem_zip hy).1 with q | q
    · exact .inl q
    · exact .inr ⟨q, PySem.W.cellsFrom_some _ _ _ (.inl q)⟩
  refine codeAny_call_function hr.depth (KX _ _ lk) rfl S.co S.gen rfl (PySem.W.codeRec_of KX hcd) (hb _ _ _ _ ?_)
  refine wpAny_newFunctionEnv_cells S.kind hkind fun env he s1 x => ?_
  subst he
  refine ⟨lim.keeps x.toInCall.keep, codeAny_func ?_⟩
  obtain ⟨t, ht, hq⟩ := hbody A outer s H vs Q E p (hr.deeper _) hsp
  have I : Inv (L2H.cxH CX0 P w K mg base N qual scope f cdv A outer s H E p) [] (L2.start N vs) H s1 := L2H.inv_startH S hpin e0 hl r x
  refine wpAny_mono (ht.run [] s1 (L2.start N vs) H _ I hq) (fun fl s' hs => ?_) fun e s' hs => hs
  have fin : ∀ {σ' : L2.St} {H' : Hp} {v : V} {u : Value}, Inv (L2H.cxH CX0 P w K mg base N qual scope f cdv A outer s H E p) [] σ' H' s' → RelV v u → Q v H' → CE outer P w H s Q u s' :=
    fun {σ' H' v u} J rv q => ⟨v, H', J.os, J.bare, J.base, J.hok, rv, q⟩
  cases fl with
  | ret u =>
    obtain ⟨v, σ', H', J, rv, q⟩ := hs
    exact fin J rv q
  | next =>
    obtain ⟨σ', H', J, q⟩ := hs
    exact fin (v := V.non) (u := Value.none) J rfl q
  | brk =>
    obtain ⟨_, _, _, q⟩ := hs
    exact False.elim q
  | cont =>
    obtain ⟨_, _, _, q⟩ := hs
    exact False.elim q
theorem Fun.okK {P : Program} {w : World} {K : PySem.W.Frag} {mg : Str → Option Value} {base : Heap} {x qual : Str} {st : Stmt} {f : Addr} {fd : FuncData} {N ps : List Str} {k : Nat} {sp : (Addr × Obj) → Sp} (F : Fun K x qual st f fd) (S : FnScope N ps (defScope st)) (len : ∀ p vs H Q E, sp p vs H Q E → vs.length = ps.length)
    (hbody : ∀ (cdv : Value) (A : Around) (outer : List Env) (s : Shared) (H : Hp) (vs : List V) (Q : VK) (E : XK) (p : Addr × Obj), L2H.RoomH k (A.deeper (envOfC qual (defScope st) s.heap.objs.size f cdv)) → sp p vs H Q E →
      ∃ t, PSs (L2H.cxH CX0 P w K mg base N qual (defScope st) f cdv A outer s H E p) (defBody st) t ∧ t { nx := fun _ H' => Q .non H', rt := Q } (start N vs) H) : FnK P w K mg base (k + 1) f fd ps sp := by
  obtain ⟨oc, od, kV, doc, pm, an, cdv, ct, osl, rfl, lk, hcd⟩ := F.ex
  exact fnK_of lk hcd S len fun A outer s H vs Q E p hr hsp => hbody cdv A outer s H vs Q E p hr hsp
section
variable {X : Cx} {k : Nat} {f : Addr} {fd : FuncData} {ps : List Str} {sp : (Addr × Obj) → Sp} {x : Str} {q pos : Pos} {e : Expr} {es : List Expr} {t : TA}
theorem run_fnK {pins : List (Addr × Obj)} {σ : L2.St} {H : Hp} {s : Shared} {Q : VK} {us : List Value} {vs : List V} {p : Addr × Obj} {E : XK} (F : FnK X.prog X.w X.K X.mg X.base k f fd ps sp) (hr : L2H.RoomH k X.A) (hp : p ∈ X.pn) (hb : Binds X.K fd ps [])
    (I : Inv X pins σ H s) (r : Vals vs us) (h : sp p vs H Q E) : wpAny (model X.prog X.w) X.A (call (.ref f) us) (EP X pins σ Q) X.xe s := by
  have hl : us.length = ps.length := by rw [← r.length]; exact F.len _ _ _ _ _ h
  have b := hb s us I.kIn (by rw [List.append_nil]; exact hl)
  rw [List.append_nil] at b
  have P1 := I.pin p (List.mem_append_left _ hp)
  have hpin : L2H.PinOk X.stack H s p := ⟨P1.1, P1.2.1, fun hm => (List.mem_cons.mp (I.stkSub p.1 hm)).elim P1.2.2.1 P1.2.2.2.1, P1.2.2.2.2⟩
  refine wpAny_call (codeAny_mono (F.run X.A X.stack s H ⟨us, []⟩ us vs Q E p hr hpin I.env0 b r h) fun r s' hq => ?_)
  cases r with
  | error e => exact False.elim hq
  | ok fl =>
    cases fl with
    | ret u => exact I.after hq
    | next => exact False.elim hq
    | brk => exact False.elim hq
    | cont => exact False.elim hq
def tCallK (p : Addr × Obj) (sp : (Addr × Obj) → Sp) (t : TA) : TE := fun σ H Q => t σ H fun vs H1 => sp p vs H1 Q E0
theorem pe_callK1 {p : Addr × Obj} (F : FnK X.prog X.w X.K X.mg X.base k f fd ps sp) (hr : L2H.RoomH k X.A) (hp : p ∈ X.pn) (hg : Gl X x) (hm : X.mg x = some (.ref f)) (hk : PySem.W.keepIn X.K (.ref f) = true) (hb : Binds X.K fd ps [])
    (ha : PA X (e :: es) t) (hdb : (x == ("__debug__" : Str)) = false := by decide) (he : starEach (e :: es) X.env = (false, eval e X.env) :: starEach es X.env := by rfl) (hpl : (backTo pos (starEach es X.env)).any (·.1) = false := by rfl) :
    PE X (.Call (.Name x q) (e :: es) [] pos) (tCallK p sp t) := by
  refine ⟨fun pins s σ H Q I h => ?_⟩
  refine wpAny_Call_Name_kw (ld_glob I hg hm ?_ hdb)
  refine PySem.W.callWith_K (h₀ := X.base) I.ok.mod.kin hk (thn (ha.run pos pins s σ H _ I h) fun us s1 ⟨vs, H1, I1, r, q⟩ => ⟨I1.kIn, ?_⟩) he hpl
  exact run_fnK F hr hp hb I1 r q
/-- isinstance of the exception that is pinned -/
theorem call_isK {a D : Addr} {oe : Obj} (C : ExcC X.K D) (hz : Zc (.ref D) none oe) (hf : ∃ vs, oe.data = .fields vs) (hp : (a, oe) ∈ X.pn) : CallR X (.builtin "isinstance") (rIsE X.K D a) := by
  intro pins s σ H xs us Q I r h
  obtain ⟨c, cv, b, rfl, hcv, e, q⟩ := h
  cases r with
  | cons rx rr =>
    cases rr with
    | cons rt rr =>
      cases rr
      cases rx
      have ec := hcv _ rt
      subst ec
      obtain ⟨hget, _⟩ := I.pin (a, oe) (List.mem_append.mpr (.inl hp))
      obtain ⟨vs, hv⟩ := hf
      have J : PySem.W.InstAt s.heap a oe D none := by
        obtain ⟨oc, od, oda, osl⟩ := oe
        obtain ⟨h1, h2⟩ := hz
        dsimp only at h1 h2 hv
        subst h1 h2 hv
        exact ⟨hget, rfl, rfl, trivial⟩
      exact PySem.W.kia_one (PySem.W.handS_kitx_exc C.hg C.hk C.hs C.hd C.ha C.hn C.ht C.hm) I.kIn J e (fun z => nomatch z) fun tk => ⟨.bl b, H, I.kept (t' := tk) fun _ _ z => z, rfl, q⟩
end
/-! ### _law_kinds -/
/-- what is due of an error of the j-th class -/
def dueB (j : Nat) : List Bool := [decide (j = 0), decide (j = 1), decide (j = 2), decide (j = 3), decide (j = 4), decide (j = 5), true]
abbrev dueV (j : Nat) : List V := (dueB j).map V.bl
/-- the six classes -/
structure Six (K : PySem.W.Frag) (mg : Str → Option Value) (D : Nat → Addr) : Prop where
  x0 : ExF K mg "BadFactor" (D 0)
  x1 : ExF K mg "BadHeap" (D 1)
  x2 : ExF K mg "BadLimit" (D 2)
  x3 : ExF K mg "BadNumber" (D 3)
  x4 : ExF K mg "BadSum" (D 4)
  x5 : ExF K mg "BadTaking" (D 5)
  ec : ∀ j, j < 6 → ExcC K (D j)
  kit : ∀ j, j < 6 → ∀ i, i < 6 → PySem.W.kitOne K (.ref (D j)) (.ref (D i)) = some (decide (j = i))
  kitV : ∀ j, j < 6 → PySem.W.kitOne K (.ref (D j)) (.type "ValueError") = some true
section
variable {P : Program} {w : World} {K : PySem.W.Frag} {mg : Str → Option Value} {base : Heap}
def spKinds (D : Nat → Addr) (p : Addr × Obj) : Sp := fun vs H Q _ => ∃ j, j < 6 ∧ Zc (.ref (D j)) none p.2 ∧ (∃ fs, p.2.data = .fields fs) ∧ vs = [.ref p.1] ∧ ∀ r H', Same H H' → H r = none → H' r = some (.lst (dueV j)) → Q (.ref r) H'
theorem scKinds : FnScope ["_law_error", "_law_found"] ["_law_error"] (defScope sLawKinds) := ⟨rfl, rfl, rfl, by decide +kernel, rfl, by decide +kernel, by decide +kernel⟩
theorem ok_kinds {D : Nat → Addr} {f : Addr} {fd : FuncData} (F : Fun K "_law_kinds" "_law_kinds" sLawKinds f fd) (S : Six K mg D) (mi : mg "isinstance" = none) (mv : mg "ValueError" = none) :
    FnK P w K mg base 1 f fd ["_law_error"] (spKinds D) := by
  refine Fun.okK F scKinds (fun p vs H Q E h => ?_) (fun cdv A outer s H vs Q E p hr h => ?_)
  · obtain ⟨j, _, _, _, rfl, _⟩ := h
    rfl
  · obtain ⟨a, oe⟩ := p
    obtain ⟨j, hj, hz, hf, rfl, q⟩ := h
    have C := S.ec j hj
    refine ⟨_, pss_cons (ps_set (i := 1) scKinds.nd rfl (Or.inl rfl) (pe_lst (pa_cons (pe_callB (call_isK C hz hf List.mem_cons_self) (by rfl) mi (by decide +kernel) (pa_cons (pv 0) (pa_cons (pe_glob (v := .ref (D 0)) (by rfl) S.x0.g rfl) pa_nil)))
        (pa_cons (pe_callB (call_isK C hz hf List.mem_cons_self) (by rfl) mi (by decide +kernel) (pa_cons (pv 0) (pa_cons (pe_glob (v := .ref (D 1)) (by rfl) S.x1.g rfl) pa_nil)))
        (pa_cons (pe_callB (call_isK C hz hf List.mem_cons_self) (by rfl) mi (by decide +kernel) (pa_cons (pv 0) (pa_cons (pe_glob (v := .ref (D 2)) (by rfl) S.x2.g rfl) pa_nil))) pa_nil)))))
      (pss_cons (ps_set (i := 1) scKinds.nd rfl (Or.inl rfl) (pe_op op_cat (pv 1) (pe_lst (pa_cons (pe_callB (call_isK C hz hf List.mem_cons_self) (by rfl) mi (by decide +kernel) (pa_cons (pv 0) (pa_cons (pe_glob (v := .ref (D 3)) (by rfl) S.x3.g rfl) pa_nil)))
        (pa_cons (pe_callB (call_isK C hz hf List.mem_cons_self) (by rfl) mi (by decide +kernel) (pa_cons (pv 0) (pa_cons (pe_glob (v := .ref (D 4)) (by rfl) S.x4.g rfl) pa_nil)))
        (pa_cons (pe_callB (call_isK C hz hf List.mem_cons_self) (by rfl) mi (by decide +kernel) (pa_cons (pv 0) (pa_cons (pe_glob (v := .ref (D 5)) (by rfl) S.x5.g rfl) pa_nil))) pa_nil))))))
      (pss_one (ps_ret (pe_op op_cat (pv 1) (pe_lst (pa_cons (pe_callB (call_isK C hz hf List.mem_cons_self) (by rfl) mi (by decide +kernel) (pa_cons (pv 0) (pa_cons (pe_bltn (v := .ty "ValueError") (by rfl) mv (by decide +kernel) rfl) pa_nil))) pa_nil)))))), ?_⟩
    refine ⟨_, rfl, _, _, _, rfl, fun _ h => h, S.kit j hj 0 (by decide), _, rfl, _, _, _, rfl, fun _ h => h, S.kit j hj 1 (by decide), _, rfl, _, _, _, rfl, fun _ h => h, S.kit j hj 2 (by decide), (by show 3 ≤ sizeLine; decide), fun l1 n1 => ?_⟩
    refine ⟨_, rfl, _, rfl, _, _, _, rfl, fun _ h => h, S.kit j hj 3 (by decide), _, rfl, _, _, _, rfl, fun _ h => h, S.kit j hj 4 (by decide), _, rfl, _, _, _, rfl, fun _ h => h, S.kit j hj 5 (by decide), (by show 3 ≤ sizeLine; decide), fun l2 n2 => ?_⟩
    have s1 := same_upd (o := .lst [.bl (decide (j = 0)), .bl (decide (j = 1)), .bl (decide (j = 2))]) n1
    have s2 := same_new (o := .lst [.bl (decide (j = 3)), .bl (decide (j = 4)), .bl (decide (j = 5))]) s1 (s1.free n2)
    refine ⟨l1, l2, _, _, rfl, rfl, same_upd n2 _ _ upd_same, upd_same, (by show 3 + 3 ≤ sizeLine; decide), fun l3 n3 => ?_⟩
    refine ⟨_, rfl, _, rfl, _, _, _, rfl, fun _ h => h, S.kitV j hj, (by show 1 ≤ sizeLine; decide), fun l4 n4 => ?_⟩
    refine ⟨l3, l4, _, _, rfl, rfl, same_upd n4 _ _ upd_same, upd_same, (by show 6 + 1 ≤ sizeLine; decide), fun l5 n5 => ?_⟩
    have s3 := same_upd (o := .lst ([.bl (decide (j = 0)), .bl (decide (j = 1)), .bl (decide (j = 2))] ++ [.bl (decide (j = 3)), .bl (decide (j = 4)), .bl (decide (j = 5))])) n3
    have s4 := same_upd (o := .lst [.bl true]) n4
    have f5 : H l5 = none := s2.free (s3.free (s4.free n5))
    exact q l5 _ (s2.trans (s3.trans (s4.trans (same_upd n5)))) f5 upd_same
end
end TA
set_option Elab.async false
set_option linter.all false
set_option maxRecDepth 100000
set_option maxHeartbeats 4000000
namespace TA
open PySem PySem.Spec PyProof.Rows L2
/-! ### == of equal lists of bools -/
theorem lay_bools : ∀ as : List Bool, PyData.canLayAll0 (as.map .bool) = true ∧ PyData.depthAll (as.map .bool) = 0
  | [] => ⟨rfl, rfl⟩
  | a :: as => by
    obtain ⟨h1, h2⟩ := lay_bools as
    constructor
    · show (PyData.canLay0 (.bool a) && PyData.canLayAll0 (as.map .bool)) = true
      rw [h1]; simp [PyData.canLay0]
    · show max (PyData.depth (.bool a)) (PyData.depthAll (as.map .bool)) = 0
      rw [h2]; simp [PyData.depth]
theorem lay_boolL (as : List Bool) : PyData.canLay0 (.list (as.map .bool)) = true := by
  simp only [PyData.canLay0]
  exact (lay_bools as).1
theorem shaped_bools (as : List Bool) : SeqAt.shaped (.list (as.map .bool)) = true := by
  obtain ⟨h1, h2⟩ := lay_bools as
  unfold SeqAt.shaped
  have e2 : PyData.depth (.list (as.map .bool)) ≤ 64 := by simp only [PyData.depth]; rw [h2]; decide
  rw [lay_boolL, decide_eq_true e2]; rfl
theorem dp_allB {K : PySem.W.Frag} {H : Hp} : ∀ bs : List Bool, DpAll K H (bs.map V.bl) (bs.map PyData.bool)
  | [] => .nil
  | b :: bs => .cons (.bl b) (dp_allB bs)
def rEqB (K : PySem.W.Frag) : R2 := fun x y H Q => ∃ (a b : Addr) (bs : List Bool), x = .ref a ∧ y = .ref b ∧ SqL K H a (bs.map V.bl) ∧ SqL K H b (bs.map V.bl) ∧ Q (.bl true) H
def rNeB (K : PySem.W.Frag) : R2 := fun x y H Q => ∃ (a b : Addr) (bs : List Bool), x = .ref a ∧ y = .ref b ∧ SqL K H a (bs.map V.bl) ∧ SqL K H b (bs.map V.bl) ∧ Q (.bl false) H
section
variable {X : Cx}
theorem op_eqB (hu : X.A.units + 64 < cLine) : OpR X (compareOp .Eq) (rEqB X.K) := by
  intro pins s σ H x y v u Q I rx ry h
  obtain ⟨a, b, bs, rfl, rfl, h1, h2, q⟩ := h
  refine op_eqD hu pins s σ H _ _ v u Q I rx ry ⟨_, _, .lst h1 (dp_allB bs), .lst h2 (dp_allB bs), shaped_bools _, shaped_bools _, ?_⟩
  rw [SeqAt.eqv_refl _ (lay_boolL bs)]
  exact q
theorem op_neB (hu : X.A.units + 64 < cLine) : OpR X (compareOp .NotEq) (rNeB X.K) := by
  intro pins s σ H x y v u Q I rx ry h
  obtain ⟨a, b, bs, rfl, rfl, h1, h2, q⟩ := h
  refine op_neD hu pins s σ H _ _ v u Q I rx ry ⟨_, _, .lst h1 (dp_allB bs), .lst h2 (dp_allB bs), shaped_bools _, shaped_bools _, ?_⟩
  rw [SeqAt.eqv_refl _ (lay_boolL bs)]
  exact q
end
/-! ### a call of a local name that holds a def which may raise -/
def tCallLS (i : Nat) (f : Addr) (sp : Sp) (E : L2.St → XK) (t : TA) : TE := fun σ H Q => σ[i]? = some (some (.ref f)) ∧ t σ H fun vs H1 => sp vs H1 Q (E σ)
section
variable {X : Cx} {CX : CXT} {k i : Nat} {f : Addr} {fd : FuncData} {ps : List Str} {sp : Sp} {E : L2.St → XK} {x : Str} {p pos : Pos} {e : Expr} {es : List Expr} {t : TA}
theorem pe_callLS (F : FnOk X.prog X.w X.K X.mg X.base CX k f fd ps sp) (hr : Room k X.A) (hN : X.N[i]? = some x) (hv : Vis X.env.scope x) (hk : PySem.W.keepIn X.K (.ref f) = true) (hb : Binds X.K fd ps []) (hx : ∀ σ, PassesAt CX X σ (E σ)) (ha : PA X (e :: es) t)
    (hdb : (x == ("__debug__" : Str)) = false := by decide) (hcd : (x == ("__classdict__" : Str)) = false := by decide)
    (he : starEach (e :: es) X.env = (false, eval e X.env) :: starEach es X.env := by rfl) (hpl : (backTo pos (starEach es X.env)).any (·.1) = false := by rfl) : PE X (.Call (.Name x p) (e :: es) [] pos) (tCallLS i f sp E t) := by
  refine ⟨fun pins s σ H Q I h => ?_⟩
  obtain ⟨hs, ht⟩ := h
  refine wpAny_Call_Name_kw (thn ((pe_var (pos := p) hN hv hdb hcd).run pins s σ H (fun v H1 => v = .ref f ∧ H1 = H) I ⟨.ref f, hs, rfl, rfl⟩) fun u s1 ⟨v, H1, I1, r1, q1⟩ => ?_)
  obtain ⟨rfl, rfl⟩ := q1
  cases r1
  refine PySem.W.callWith_K (h₀ := X.base) I.ok.mod.kin hk (thn (ha.run pos pins s1 σ _ _ I1 ht) fun us s2 ⟨vs, H2, I2, r, q⟩ => ⟨I2.kIn, ?_⟩) he hpl
  exact run_fnS F hr hb (hx σ) I2 r q
end
/-- a def that may be asked -/
structure Asker (P : Program) (w : World) (K : PySem.W.Frag) (mg : Str → Option Value) (base : Heap) (fa : Addr) (sp : Sp) : Prop where
  ex : ∃ (fd : FuncData) (ps : List Str), FnOk P w K mg base (L2.CX P w) 6 fa fd ps sp ∧ PySem.W.keepIn K (.ref fa) = true ∧ Binds K fd ps []
/-- asked so, it refuses by the j-th class -/
def Refuses (D : Nat → Addr) (sp : Sp) (j : Nat) (one other : V) (H : Hp) : Prop := ∀ (Q : VK) (E : XK), (∀ H', Sm H H' → E (.ref (D j)) none H') → sp [one, other] H Q E
section
variable {P : Program} {w : World} {K : PySem.W.Frag} {mg : Str → Option Value} {base : Heap}
/-! ### _law_told -/
def spLTold (P : Program) (w : World) (K : PySem.W.Frag) (mg : Str → Option Value) (base : Heap) (D : Nat → Addr) : Sp := fun vs H Q _ => ∃ (fa : Addr) (sp : Sp) (j : Nat) (one other : V), vs = [.ref fa, one, other] ∧ Asker P w K mg base fa sp ∧ j < 6 ∧ Refuses D sp j one other H ∧
  ∀ r H', Sm H H' → H r = none → H' r = some (.lst (dueV j)) → Q (.ref r) H'
theorem scLTold : FnScope ["_law_ask", "_law_one", "_law_other", "_law_error"] ["_law_ask", "_law_one", "_law_other"] (defScope sLawTold) := ⟨rfl, rfl, rfl, by decide +kernel, rfl, by decide +kernel, by decide +kernel⟩
def tsTold (D : Nat → Addr) : Addr → Value → Option Addr → TS := fun a cls d D' σ H => ∃ j, j < 6 ∧ cls = .ref (D j) ∧ d = none ∧ σ[3]? = some (some (.ref a)) ∧ ∀ r H', Same H H' → H r = none → H' r = some (.lst (dueV j)) → D'.rt (.ref r) H'
theorem ok_ltold {D : Nat → Addr} {f fK DT : Addr} {fd fdK : FuncData} (F : Fun K "_law_told" "_law_told" sLawTold f fd)
    (GK : FnK P w K mg base 1 fK fdK ["_law_error"] (spKinds D)) (kK : PySem.W.keepIn K (.ref fK) = true) (bK : Binds K fdK ["_law_error"] []) (gK : mg "_law_kinds" = some (.ref fK))
    (gT : mg "TakeError" = some (.ref DT)) (ex : ∀ j, j < 6 → PySem.W.exmOne K (.ref (D j)) (.ref DT) = some true) :
    FnOk P w K mg base CX0 7 f fd ["_law_ask", "_law_one", "_law_other"] (spLTold P w K mg base D) := by
  refine F.ok scLTold (fun vs H Q E h => ?_) (fun cdv A outer s H vs Q E hr h => ?_)
  · obtain ⟨fa, sp, j, one, other, rfl, _⟩ := h
    rfl
  · obtain ⟨fa, sp, j, one, other, rfl, ⟨fdA, ps, GA, kA, bA⟩, hj, hR, q⟩ := h
    have hK : L2H.RoomH 1 (A.deeper (envOfC "_law_told" (defScope sLawTold) s.heap.objs.size f cdv)) := ⟨by have := hr.dp; omega, by have := hr.un; omega⟩
    refine ⟨_, pss_cons (ps_try_as (i := 3) (tb := fun W => tDrop (tCallLS 0 fa sp (WE W) (tCons (tVar 1) (tCons (tVar 2) tNil)))) (ts := tsTold D) (Wout := fun _ _ _ _ => False) rfl rfl scLTold.nd rfl rfl ⟨rfl, by decide, Or.inl gT⟩ takes0
        (fun W pn xe tk _ => pss_one (ps_expr (by exact (pe_callLS (i := 0) GA hr rfl (.inl rfl) kA bA (fun σ => passAt tk σ) (by exact (pa_cons (pv 1) (pa_cons (pv 2) pa_nil)))))))
        (fun a oe cls d pn hz hf => ⟨fun pins s σ H D' I h => by
          obtain ⟨j, hj, rfl, rfl, hσ, q⟩ := h
          refine (pss_one (ps_ret (pe_callK1 GK ⟨hK.dp, hK.un⟩ List.mem_cons_self (by rfl) gK kK bK (by exact (pa_cons (pv 3) pa_nil))))).run pins s σ H D' I ?_
          exact ⟨.ref a, hσ, j, hj, hz, hf, rfl, q⟩⟩)) pss_never, ?_⟩
    refine ⟨rfl, one, rfl, other, rfl, ?_⟩
    refine hR _ _ fun H' sm => ?_
    refine ⟨true, ex j hj, fun _ a na => ⟨j, hj, rfl, rfl, rfl, fun r H2 s2 nr hr2 => ?_⟩, fun z => Bool.noConfusion z⟩
    exact q r H2 (sm.trans (Sm.of s2)) (sm.free nr) hr2
/-! ### _law_all -/
def spLAll (P : Program) (w : World) (K : PySem.W.Frag) (mg : Str → Option Value) (base : Heap) (D : Nat → Addr) : Sp := fun vs H Q _ => ∃ (fa : Addr) (sp : Sp) (j : Nat) (dl tl du : Addr) (ds ts : List V), vs = [.ref fa, .ref dl, .ref tl, .ref du] ∧ Asker P w K mg base fa sp ∧ j < 6 ∧
  SqL K H dl ds ∧ SqL K H tl ts ∧ SqL K H du (dueV j) ∧ ts.length ≤ 1000 ∧ (∀ d ∈ ds, ∀ t ∈ ts, ∀ H1, Sm H H1 → Refuses D sp j d t H1) ∧ ∀ H', Sm H H' → Q (.bl true) H'
abbrev nLAll : List Str := ["_law_ask", "_law_doors", "_law_things", "_law_due", "_law_door", "_law_thing"]
theorem scLAll : FnScope nLAll ["_law_ask", "_law_doors", "_law_things", "_law_due"] (defScope sLawAll) := ⟨rfl, rfl, rfl, by decide +kernel, rfl, by decide +kernel, by decide +kernel⟩
theorem all_repT (n : Nat) : (List.replicate n true).all id = true := by
  induction n with
  | zero => rfl
  | succ n ih => rw [List.replicate_succ, List.all_cons, ih]; rfl
theorem rep_snocT (n : Nat) : (List.replicate (n + 1) true).map V.bl = (List.replicate n true).map V.bl ++ [.bl true] := by
  rw [List.replicate_succ', List.map_append]; rfl
theorem ok_lall {D : Nat → Addr} {f fT : Addr} {fd fdT : FuncData} (F : Fun K "_law_all" "_law_all" sLawAll f fd)
    (GT : FnOk P w K mg base CX0 7 fT fdT ["_law_ask", "_law_one", "_law_other"] (spLTold P w K mg base D)) (kT : PySem.W.keepIn K (.ref fT) = true) (bT : Binds K fdT ["_law_ask", "_law_one", "_law_other"] []) (gT : mg "_law_told" = some (.ref fT)) (ma : mg "all" = none) :
    FnOk P w K mg base CX0 8 f fd ["_law_ask", "_law_doors", "_law_things", "_law_due"] (spLAll P w K mg base D) := by
  refine F.ok scLAll (fun vs H Q E h => ?_) (fun cdv A outer s H vs Q E hr h => ?_)
  · obtain ⟨fa, sp, j, dl, tl, du, ds, ts, rfl, _⟩ := h
    rfl
  · obtain ⟨fa, sp, j, dl, tl, du, ds, ts, rfl, hA, hj, hD, hT, hU, hlen, hR, q⟩ := h
    refine ⟨_, pss_cons (ps_for PassesOwn.never rfl (pi_list (pv 1)) (pg_name (i := 4) scLAll.nd rfl (Or.inr rfl))
      (pss_one (ps_if (pt_not (pt_val (pe_callB (cr_all rfl) (by rfl) ma (by decide +kernel) (pa_cons
          (pe_lc (own := [("_law_thing", 5)]) (g := gName 5) (tt := tYes) (by rfl) scLAll.nd (pi_list (pv 2)) (blkOk_by (own := [("_law_thing", 5)]) (N := nLAll) (sc := defScope sLawAll) (by decide +kernel))
            (fun _ _ _ _ _ => pg_name (i := 5) scLAll.nd rfl (Or.inl rfl)) (fun _ _ _ _ _ => pts_nil)
            (fun _ _ _ _ _ => pe_cmpR (r := rEqB K) (op_eqB hr.units) (pe_call GT hr (by rfl) gT kT bT .nil pass0 (pa_cons (pv 0) (pa_cons (pv 4) (pa_cons (pv 5) pa_nil)))) (pv 3) (nomark _))) pa_nil)))) pss_never pss_nil)))
      (pss_one (ps_ret pe_bl)), ?_⟩
    refine ⟨_, rfl, dl, rfl, ⟨_, hD⟩, for_list (xs := ds) (fun i σ H' => ∃ v4, σ = [some (.ref fa), some (.ref dl), some (.ref tl), some (.ref du), v4, none] ∧ Sm H H') ⟨none, rfl, Sm.refl H⟩ (fun i σ H' _ ⟨_, _, sm⟩ => sm.seq hD) ?_ ?_⟩
    · rintro i d σ H1 hi ⟨v4, rfl, sm1⟩
      have hd : d ∈ ds := List.mem_of_getElem? hi
      refine ⟨_, rfl, tl, rfl, ⟨_, sm1.seq hT⟩, fun L nL => ?_⟩
      refine lc_list (K := K) (a := tl) (xs := ts) (fun i H' => Sm H1 H' ∧ H' L = some (.lst ((List.replicate i true).map V.bl))) ⟨Sm.upd nL, upd_same⟩ (fun i H' _ p => (sm1.trans p.1).seq hT) ?_ ?_
      · rintro i y H2 hi ⟨sm2, hL2⟩
        have hy : y ∈ ts := List.mem_of_getElem? hi
        have hlt := (List.getElem?_eq_some_iff.mp hi).1
        have sm := sm1.trans sm2
        refine ⟨rfl, _, rfl, d, rfl, y, rfl, fa, sp, j, d, y, rfl, hA, hj, hR d hd y hy H2 sm, fun r H3 sm3 nr hr3 => ?_⟩
        refine ⟨_, rfl, r, du, _, rfl, rfl, SqL.of hr3, (sm.trans sm3).seq hU, ?_⟩
        refine ⟨_, sm3.lst hL2, ?_, (sm2.trans sm3).new nL, ?_⟩
        · rw [List.length_map, List.length_replicate]
          exact small_line (by omega)
        · rw [upd_same, rep_snocT]
      · rintro H3 ⟨sm3, hL3⟩
        refine ⟨L, _, rfl, SqL.of hL3, _, rfl, ?_⟩
        rw [all_repT]
        exact iteF ⟨_, rfl, sm1.trans sm3⟩
    · rintro σ H1 ⟨v4, rfl, sm1⟩
      exact q H1 sm1
end
end TA
set_option Elab.async false
set_option linter.all false
set_option maxRecDepth 100000
set_option maxHeartbeats 4000000
namespace TA
open PySem PySem.Spec PyProof.Rows L2
section
variable {X : Cx}
theorem op_mulX : OpR X (binaryOp .Mult) (rI IntMulOk fun i j => .int (i * j)) := opI fun _ _ _ _ _ _ _ hc q => mul_int q hc
end
def Bits (c : Int) : Prop := Builtin.Int.intBits c ≤ 1048576
theorem bits_sum {c d : Int} (h : Bits c) (hd : Builtin.Int.intBits d ≤ 64) : Builtin.Int.intBits (c + d) ≤ 1048577 := by
  have := PySem.intBits_add_le h hd
  have e : max 1048576 64 + 1 = 1048577 := by decide
  rw [e] at this
  exact this
theorem bits64 {k : Int} (h1 : -(2 ^ 40) < k) (h2 : k < 2 ^ 40) : Builtin.Int.intBits k ≤ 64 := by
  have e1 : (2 : Int) ^ 40 = 1099511627776 := by decide
  have e2 : (2 : Int) ^ 64 = 18446744073709551616 := by decide
  exact intBits_le_64 (by omega) (by omega)
def prm : List Int := [1000003, 1000033, 1000037, 1000039, 1000081, 1000099, 1000117, 1000121, 1000133, 1000151, 1000159, 1000171, 1000183, 1000187, 1000193, 1000199]
theorem prm_at {k : Int} : ∃ p, atI (prm.map V.int) (k % 16) = some (.int p) ∧ 0 < p := by
  have h0 := Int.emod_nonneg k (show (16 : Int) ≠ 0 by decide)
  have h1 := Int.emod_lt_of_pos k (show (0 : Int) < 16 by decide)
  have hl : (k % 16).toNat < prm.length := by show (k % 16).toNat < 16; omega
  refine ⟨prm[(k % 16).toNat], vat h0 (List.getElem?_eq_getElem hl), ?_⟩
  have all : ∀ x ∈ prm, (0 : Int) < x := by decide
  exact all _ (List.getElem_mem hl)
section
variable {P : Program} {w : World} {K : PySem.W.Frag} {mg : Str → Option Value} {base : Heap}
/-! ### _law_cell_at -/
def spCellAt (K : PySem.W.Frag) : Sp := fun vs H Q _ => ∃ (a : Addr) (ns : List Int) (k : Int), vs = [.ref a, .int k] ∧ SqL K H a (ns.map V.int) ∧ 0 ≤ k ∧ ∀ v, (v = 0 ∨ v ∈ ns) → Q (.int v) H
theorem scCellAt : FnScope ["_law_script", "_law_k"] ["_law_script", "_law_k"] (defScope sCellAt) := ⟨rfl, rfl, rfl, by decide +kernel, rfl, by decide +kernel, by decide +kernel⟩
theorem ok_cell_at {f : Addr} {fd : FuncData} (F : Fun K "_law_cell_at" "_law_cell_at" sCellAt f fd) (ml : mg "len" = none) :
    FnOk P w K mg base CX0 1 f fd ["_law_script", "_law_k"] (spCellAt K) := by
  refine F.ok scCellAt (fun vs H Q E h => ?_) (fun cdv A outer s H vs Q E hr h => ?_)
  · obtain ⟨a, ns, k, rfl, _⟩ := h
    rfl
  · obtain ⟨a, ns, k, rfl, hS, k0, q⟩ := h
    refine ⟨_, pss_cons (ps_if (pt_cmpR op_lt (pv 1) (pe_callB call_len_seq (by rfl) ml PySem.boot_len (pa_cons (pv 0) pa_nil)) (nomark _)) (pss_one (ps_ret (pe_ix ix_list (pv 0) (pv 1) (fun _ _ => rfl)))) pss_nil)
      (pss_one (ps_ret pe_int)), ?_⟩
    refine ⟨_, rfl, .ref a, rfl, a, _, rfl, .inl hS, _, _, rfl, rfl, _, rfl, ?_⟩
    refine ite2 (fun c => ?_) (fun c => ?_)
    · have c' : k < (((ns.map V.int).length : Nat) : Int) := of_decide_eq_true c
      rw [List.length_map] at c'
      have hl : k.toNat < ns.length := by omega
      exact ⟨.ref a, rfl, .int k, rfl, a, _, _, _, rfl, rfl, hS, vat k0 (List.getElem?_eq_getElem hl), q _ (.inr (List.getElem_mem hl))⟩
    · exact q 0 (.inl rfl)
/-! ### _law_draw -/
def spDraw : Sp := fun vs H Q _ => ∃ (c k m : Int), vs = [.int c, .int k, .int m] ∧ 0 < m ∧ ∀ v H', 0 ≤ v → v < m → Same H H' → Q (.int v) H'
theorem scDraw : FnScope ["_law_cell", "_law_k", "_law_many", "_law_primes"] ["_law_cell", "_law_k", "_law_many"] (defScope sDraw) := ⟨rfl, rfl, rfl, by decide +kernel, rfl, by decide +kernel, by decide +kernel⟩
theorem big64 {j : Int} (h1 : -1000000000 ≤ j) (h2 : j ≤ 1000000000) : -(2 ^ 64) < j ∧ j < 2 ^ 64 := by
  have : (2 : Int) ^ 64 = 18446744073709551616 := by decide
  omega
theorem ok_draw {f : Addr} {fd : FuncData} (F : Fun K "_law_draw" "_law_draw" sDraw f fd) :
    FnOk P w K mg base CX0 1 f fd ["_law_cell", "_law_k", "_law_many"] spDraw := by
  refine F.ok scDraw (fun vs H Q E h => ?_) (fun cdv A outer s H vs Q E hr h => ?_)
  · obtain ⟨c, k, m, rfl, _⟩ := h
    rfl
  · obtain ⟨c, k, m, rfl, m0, q⟩ := h
    refine ⟨_, pss_cons (ps_set (i := 3) scDraw.nd rfl (Or.inl rfl) (pe_tup (pa_cons pe_int (pa_cons pe_int (pa_cons pe_int (pa_cons pe_int (pa_cons pe_int (pa_cons pe_int (pa_cons pe_int (pa_cons pe_int
        (pa_cons pe_int (pa_cons pe_int (pa_cons pe_int (pa_cons pe_int (pa_cons pe_int (pa_cons pe_int (pa_cons pe_int (pa_cons pe_int pa_nil))))))))))))))))))
      (pss_one (ps_ret (pe_op op_mod (pe_op op_mod (pe_op op_add (pe_op op_mul (pv 0) pe_int) (pe_op op_mul (pv 1) pe_int)) (pe_ix ix_tup (pv 3) (pe_op op_mod (pv 1) pe_int) (fun _ _ => rfl))) (pv 2)))), ?_⟩
    refine ⟨(by show 16 ≤ sizeLine; decide), fun t nt => ?_⟩
    obtain ⟨p, hp, p0⟩ := prm_at (k := k)
    refine ⟨_, rfl, c, 48271, rfl, rfl, .inr (big64 (by decide) (by decide)), _, rfl, k, 69621, rfl, rfl, .inr (big64 (by decide) (by decide)), _, _, rfl, rfl, _, rfl, _, rfl, k, 16, rfl, rfl, (by show (0 : Int) < 16; decide),
      t, prm.map V.int, _, _, rfl, rfl, SqT.of upd_same, hp, _, _, rfl, rfl, p0, _, rfl, _, _, rfl, rfl, m0, ?_⟩
    exact q _ _ (Int.emod_nonneg _ (by omega)) (Int.emod_lt_of_pos _ m0) (same_upd nt)
end
end TA
set_option Elab.async false
set_option linter.all false
set_option maxRecDepth 100000
set_option maxHeartbeats 4000000
namespace TA
open PySem PySem.Spec PyProof.Rows L2
section
variable {P : Program} {w : World} {K : PySem.W.Frag} {mg : Str → Option Value} {base : Heap}
/-! ### _law_value -/
abbrev T40 : Int := 10 ^ 40
def spValue : Sp := fun vs H Q _ => ∃ (c k l : Int), vs = [.int c, .int k, .int l] ∧ Bits c ∧ 0 ≤ k ∧ k ≤ 1000 ∧ 0 < l ∧ l ≤ 1000000 ∧ ∀ v H', 0 ≤ v → v < T40 → Same H H' → Q (.int v) H'
theorem scValue : FnScope ["_law_cell", "_law_k", "_law_limit"] ["_law_cell", "_law_k", "_law_limit"] (defScope sValue) := ⟨rfl, rfl, rfl, by decide +kernel, rfl, by decide +kernel, by decide +kernel⟩
theorem ok_value {f fD : Addr} {fd fdD : FuncData} (F : Fun K "_law_value" "_law_value" sValue f fd) (FD : Fun K "_law_draw" "_law_draw" sDraw fD fdD) (bD : Binds K fdD ["_law_cell", "_law_k", "_law_many"] []) (gD : mg "_law_draw" = some (.ref fD)) :
    FnOk P w K mg base CX0 2 f fd ["_law_cell", "_law_k", "_law_limit"] spValue := by
  have GD : FnOk P w K mg base CX0 1 fD fdD ["_law_cell", "_law_k", "_law_many"] spDraw := ok_draw FD
  refine F.ok scValue (fun vs H Q E h => ?_) (fun cdv A outer s H vs Q E hr h => ?_)
  · obtain ⟨c, k, m, rfl, _⟩ := h
    rfl
  · obtain ⟨c, k, l, rfl, hB, k0, k1, l0, l1, q⟩ := h
    refine ⟨_, pss_cons (ps_if (pt_cmpR op_ge (pv 0) (pe_op op_pow pe_int pe_int) (nomark _)) (pss_one (ps_ret (pe_op op_mod (pe_op op_sub (pv 0) (pe_op op_pow pe_int pe_int)) (pe_op op_pow pe_int pe_int)))) pss_nil)
      (pss_one (ps_ret (pe_call GD hr (by rfl) gD FD.kp bD .nil pass0
        (pa_cons (pe_op op_mulX (pe_op op_add (pv 0) (pe_op op_mul pe_int (pv 1))) (pe_op op_add (pe_op op_add (pv 0) (pe_op op_mul pe_int (pv 1))) pe_int)) (pa_cons (pe_op op_add (pe_op op_mod (pv 1) pe_int) pe_int) (pa_cons (pv 2) pa_nil)))))), ?_⟩
    refine ⟨_, rfl, 10, 18, rfl, rfl, (by show (0 : Int) ≤ 18 ∧ (18 : Int) ≤ 1000000 ∧ (10 : Int).natAbs < 2 ^ 64; decide), _, _, rfl, rfl, _, rfl, ?_⟩
    refine ite2 (fun z => ?_) (fun z => ?_)
    · refine ⟨_, rfl, 10, 18, rfl, rfl, (by show (0 : Int) ≤ 18 ∧ (18 : Int) ≤ 1000000 ∧ (10 : Int).natAbs < 2 ^ 64; decide), _, _, rfl, rfl, 10, 40, rfl, rfl, (by show (0 : Int) ≤ 40 ∧ (40 : Int) ≤ 1000000 ∧ (10 : Int).natAbs < 2 ^ 64; decide), _, _, rfl, rfl, (by show (0 : Int) < 10 ^ 40; decide), ?_⟩
      exact q _ _ (Int.emod_nonneg _ (show (10 : Int) ^ 40 ≠ 0 by decide)) (Int.emod_lt_of_pos _ (show (0 : Int) < 10 ^ 40 by decide)) (Same.refl _)
    · have b1 : Builtin.Int.intBits (c + 977 * k) ≤ 1048577 := bits_sum hB (bits64 (by omega) (by omega))
      have b2 : Builtin.Int.intBits (c + (31 * k + 5)) ≤ 1048577 := bits_sum hB (bits64 (by omega) (by omega))
      rw [← Int.add_assoc] at b2
      refine ⟨_, rfl, _, rfl, 977, k, rfl, rfl, .inl (big64 (by decide) (by decide)), _, _, rfl, rfl, _, rfl, _, rfl, 31, k, rfl, rfl, .inl (big64 (by decide) (by decide)), _, _, rfl, rfl, _, _, rfl, rfl, _, _, rfl, rfl, PySem.IntMulOk.of_le b1 b2 (by decide), _, rfl, k, 9, rfl, rfl, (by show (0 : Int) < 9; decide), _, _, rfl, rfl, _, rfl, ?_⟩
      refine ⟨_, _, l, rfl, l0, fun v H' v0 v1 sm => q v H' v0 ?_ sm⟩
      have : (1000000 : Int) < T40 := by decide
      omega
/-! ### _law_factor -/
def spFactor (K : PySem.W.Frag) : Sp := fun vs H Q _ => ∃ (a : Addr) (ns : List Int) (k : Int), vs = [.ref a, .int k] ∧ SqL K H a (ns.map V.int) ∧ 0 ≤ k ∧ k ≤ 1000 ∧ ∀ v H', 1 ≤ v → v ≤ 30 → Same H H' → Q (.int v) H'
theorem scFactor : FnScope ["_law_script", "_law_k", "_law_cell"] ["_law_script", "_law_k"] (defScope sFactor) := ⟨rfl, rfl, rfl, by decide +kernel, rfl, by decide +kernel, by decide +kernel⟩
theorem five_at {x y d : Int} (d0 : 0 ≤ d) (d1 : d < 5) (x0 : 0 ≤ x) (x1 : x < 8) (y0 : 0 ≤ y) (y1 : y < 30) : ∃ v, atI ([1, 2, 3, 1 + x, 1 + y].map V.int) d = some (.int v) ∧ 1 ≤ v ∧ v ≤ 30 := by
  have hd : d.toNat = 0 ∨ d.toNat = 1 ∨ d.toNat = 2 ∨ d.toNat = 3 ∨ d.toNat = 4 := by omega
  rcases hd with e | e | e | e | e
  · exact ⟨1, vat d0 (by rw [e]; rfl), by omega, by omega⟩
  · exact ⟨2, vat d0 (by rw [e]; rfl), by omega, by omega⟩
  · exact ⟨3, vat d0 (by rw [e]; rfl), by omega, by omega⟩
  · exact ⟨1 + x, vat d0 (by rw [e]; rfl), by omega, by omega⟩
  · exact ⟨1 + y, vat d0 (by rw [e]; rfl), by omega, by omega⟩
theorem ok_factor {f fD fA : Addr} {fd fdD fdA : FuncData} (F : Fun K "_law_factor" "_law_factor" sFactor f fd) (FD : Fun K "_law_draw" "_law_draw" sDraw fD fdD) (bD : Binds K fdD ["_law_cell", "_law_k", "_law_many"] []) (gD : mg "_law_draw" = some (.ref fD))
    (FA : Fun K "_law_cell_at" "_law_cell_at" sCellAt fA fdA) (bA : Binds K fdA ["_law_script", "_law_k"] []) (gA : mg "_law_cell_at" = some (.ref fA)) (ml : mg "len" = none) :
    FnOk P w K mg base CX0 2 f fd ["_law_script", "_law_k"] (spFactor K) := by
  have GD : FnOk P w K mg base CX0 1 fD fdD ["_law_cell", "_law_k", "_law_many"] spDraw := ok_draw FD
  have GA : FnOk P w K mg base CX0 1 fA fdA ["_law_script", "_law_k"] (spCellAt K) := ok_cell_at FA ml
  refine F.ok scFactor (fun vs H Q E h => ?_) (fun cdv A outer s H vs Q E hr h => ?_)
  · obtain ⟨c, k, m, rfl, _⟩ := h
    rfl
  · obtain ⟨a, ns, k, rfl, hS, k0, k1, q⟩ := h
    refine ⟨_, pss_cons (ps_set (i := 2) scFactor.nd rfl (Or.inl rfl) (pe_op op_mod (pe_call GA hr (by rfl) gA FA.kp bA .nil pass0 (pa_cons (pv 0) (pa_cons (pv 1) pa_nil))) (pe_op op_pow pe_int pe_int)))
      (pss_one (ps_ret (pe_ix ix_tup (pe_tup (pa_cons pe_int (pa_cons pe_int (pa_cons pe_int (pa_cons (pe_op op_add pe_int (pe_call GD hr (by rfl) gD FD.kp bD .nil pass0 (pa_cons (pv 2) (pa_cons pe_int (pa_cons pe_int pa_nil)))))
          (pa_cons (pe_op op_add pe_int (pe_call GD hr (by rfl) gD FD.kp bD .nil pass0 (pa_cons (pv 2) (pa_cons pe_int (pa_cons pe_int pa_nil))))) pa_nil))))))
        (pe_call GD hr (by rfl) gD FD.kp bD .nil pass0 (pa_cons (pe_op op_add (pv 2) (pe_op op_mul pe_int (pv 1))) (pa_cons pe_int (pa_cons pe_int pa_nil)))) (fun _ _ => rfl)))), ?_⟩
    refine ⟨_, rfl, _, rfl, a, ns, k, rfl, hS, k0, fun c _ => ?_⟩
    refine ⟨10, 18, rfl, rfl, (by show (0 : Int) ≤ 18 ∧ (18 : Int) ≤ 1000000 ∧ (10 : Int).natAbs < 2 ^ 64; decide), _, _, rfl, rfl, (by show (0 : Int) < 10 ^ 18; decide), ?_⟩
    refine ⟨_, rfl, _, 4, 8, rfl, by decide, fun x H1 x0 x1 s1 => ?_⟩
    refine ⟨_, _, rfl, rfl, _, rfl, _, 4, 30, rfl, by decide, fun y H2 y0 y1 s2 => ?_⟩
    refine ⟨_, _, rfl, rfl, (by show 5 ≤ sizeLine; decide), fun t nt => ?_⟩
    refine ⟨_, rfl, _, rfl, 31, k, rfl, rfl, .inl (big64 (by decide) (by decide)), _, _, rfl, rfl, _, 6, 5, rfl, by decide, fun d H3 d0 d1 s3 => ?_⟩
    obtain ⟨v, hv, v1, v2⟩ := five_at d0 d1 x0 x1 y0 y1
    refine ⟨t, [1, 2, 3, 1 + x, 1 + y].map V.int, d, _, rfl, rfl, SqT.of (s3 _ _ upd_same), hv, ?_⟩
    exact q v H3 v1 v2 (s1.trans (s2.trans ((same_upd nt).trans s3)))
end
end TA
set_option Elab.async false
set_option linter.all false
set_option maxRecDepth 100000
set_option maxHeartbeats 4000000
namespace TA
open PySem PySem.Spec PyProof.Rows L2
/-! ### == of tuples of ints -/
theorem shaped_tints (as : List Int) : SeqAt.shaped (.tuple (as.map .int)) = true := by
  obtain ⟨h1, h2⟩ := lay_ints as
  unfold SeqAt.shaped
  have e1 : PyData.canLay0 (.tuple (as.map .int)) = true := by simp only [PyData.canLay0]; exact h1
  have e2 : PyData.depth (.tuple (as.map .int)) ≤ 64 := by simp only [PyData.depth]; rw [h2]; decide
  rw [e1, decide_eq_true e2]; rfl
theorem dp_tints {K : PySem.W.Frag} {H : Hp} {a : Addr} {ns : List Int} (h : SqT K H a (ns.map V.int)) : Dp K H (.ref a) (.tuple (ns.map PyData.int)) := .tup h (dp_all ns)
def rEqTu (K : PySem.W.Frag) : R2 := fun x y H Q => ∃ (a b : Addr) (xs ys : List Int), x = .ref a ∧ y = .ref b ∧ SqT K H a (xs.map V.int) ∧ SqT K H b (ys.map V.int) ∧ Q (.bl (decide (xs = ys))) H
def rNeTu (K : PySem.W.Frag) : R2 := fun x y H Q => ∃ (a b : Addr) (xs ys : List Int), x = .ref a ∧ y = .ref b ∧ SqT K H a (xs.map V.int) ∧ SqT K H b (ys.map V.int) ∧ Q (.bl (!decide (xs = ys))) H
section
variable {X : Cx}
theorem op_eqTu (hu : X.A.units + 64 < cLine) : OpR X (compareOp .Eq) (rEqTu X.K) := by
  intro pins s σ H x y v u Q I rx ry h
  obtain ⟨a, b, xs, ys, rfl, rfl, h1, h2, q⟩ := h
  refine op_eqD hu pins s σ H _ _ v u Q I rx ry ⟨_, _, dp_tints h1, dp_tints h2, shaped_tints _, shaped_tints _, ?_⟩
  rw [PyData.eqv, eqv_ints]
  exact q
theorem op_neTu (hu : X.A.units + 64 < cLine) : OpR X (compareOp .NotEq) (rNeTu X.K) := by
  intro pins s σ H x y v u Q I rx ry h
  obtain ⟨a, b, xs, ys, rfl, rfl, h1, h2, q⟩ := h
  refine op_neD hu pins s σ H _ _ v u Q I rx ry ⟨_, _, dp_tints h1, dp_tints h2, shaped_tints _, shaped_tints _, ?_⟩
  rw [PyData.eqv, eqv_ints]
  exact q
end
end TA
set_option Elab.async false
set_option linter.all false
set_option maxRecDepth 100000
set_option maxHeartbeats 4000000
namespace TA
open PySem PySem.Spec PyProof.Rows L2
/-! ### the steps by 2, 1, 30 -/
theorem nxt_two : ∀ n : Nat, nxt 2 (rowR 2 (n + 1)) = st 2 n
  | 0 => by decide +kernel
  | n + 1 => by
    refine nxt_of_split (a := [st 2 (n + 1 + 1)]) (b := rowR 2 n) ?_ (fun y hy => ?_) ?_
    · rw [rowR_succ, ← st_succ, rowR_succ, ← st_succ]; rfl
    · have h1 := row_le (f := 2) (by decide) n hy
      have h2 := st_lt (f := 2) (by decide) n
      have h3 : st 2 (n + 1 + 1) = st 2 (n + 1) + nxt 2 (rowR 2 (n + 1)) := st_succ 2 (n + 1)
      rw [nxt_two n] at h3
      omega
    · have h2 := st_lt (f := 2) (by decide) n
      have h3 : st 2 (n + 1 + 1) = st 2 (n + 1) + nxt 2 (rowR 2 (n + 1)) := st_succ 2 (n + 1)
      rw [nxt_two n] at h3
      omega
theorem fib_two (n : Nat) : st 2 (n + 1 + 1) = st 2 (n + 1) + st 2 n := by rw [st_succ, nxt_two n]
theorem fib19 : ∀ n : Nat, (st 2 n % 19, st 2 (n + 1) % 19) ∈ ([(1, 2), (2, 3), (3, 5), (5, 8), (8, 13), (13, 2), (2, 15), (15, 17), (17, 13), (13, 11), (11, 5), (5, 16), (16, 2), (2, 18), (18, 1), (1, 0), (0, 1), (1, 1)] : List (Int × Int))
  | 0 => by decide +kernel
  | n + 1 => by
    have h := fib19 n
    have e := fib_two n
    have e2 : st 2 (n + 1 + 1) % 19 = (st 2 (n + 1) % 19 + st 2 n % 19) % 19 := by omega
    rw [e2]
    generalize st 2 n % 19 = x at h
    generalize st 2 (n + 1) % 19 = y at h
    simp only [List.mem_cons, Prod.mk.injEq, List.not_mem_nil, or_false] at h
    rcases h with ⟨rfl, rfl⟩ | ⟨rfl, rfl⟩ | ⟨rfl, rfl⟩ | ⟨rfl, rfl⟩ | ⟨rfl, rfl⟩ | ⟨rfl, rfl⟩ | ⟨rfl, rfl⟩ | ⟨rfl, rfl⟩ | ⟨rfl, rfl⟩ | ⟨rfl, rfl⟩ | ⟨rfl, rfl⟩ | ⟨rfl, rfl⟩ | ⟨rfl, rfl⟩ | ⟨rfl, rfl⟩ | ⟨rfl, rfl⟩ | ⟨rfl, rfl⟩ | ⟨rfl, rfl⟩ | ⟨rfl, rfl⟩ <;> decide +kernel
theorem big_no (n : Nat) : st 2 n ≠ 10 ^ 40 := fun e => by
  have h := fib19 n
  rw [e] at h
  have e6 : (10 : Int) ^ 40 % 19 = 6 := by decide +kernel
  rw [e6] at h
  simp only [List.mem_cons, Prod.mk.injEq, List.not_mem_nil, or_false] at h
  omega
theorem big_bad : ([10 ^ 40, 1] : List Int) ≠ parts 2 ([10 ^ 40, 1] : List Int).sum := fun e => by
  obtain ⟨i, _, _, h⟩ := parts_head (f := 2) (by decide) (h := ([10 ^ 40, 1] : List Int).sum) (by decide +kernel)
  rw [h] at e
  exact big_no i (List.cons.inj e).1.symm
theorem two_bad {ns : List Int} (h0 : 0 ≤ ns.sum) (h1 : ns.sum < 34) (h : ns ≠ gr (rowR 2 7) ns.sum) : ns ≠ parts 2 ns.sum := by
  rw [← parts_of (f := 2) (n := 7) (by decide) h0 (by rw [show st 2 7 = 34 by decide +kernel]; exact h1)]
  exact h
theorem thirty {h : Int} (h0 : 0 ≤ h) (h1 : h < 33) : parts 30 h = gr (rowR 30 31) h :=
  (parts_of (f := 30) (n := 31) (by decide) h0 (by rw [show st 30 31 = 33 by decide +kernel]; exact h1)).symm
theorem thirty_bad {ns : List Int} (h0 : 0 ≤ ns.sum) (h1 : ns.sum < 33) (h : ns ≠ gr (rowR 30 31) ns.sum) : ns ≠ parts 30 ns.sum := by
  rw [thirty h0 h1]
  exact h
section
variable {P : Program} {w : World} {K : PySem.W.Frag} {mg : Str → Option Value} {base : Heap}
/-! ### what stays so -/
theorem Sm.whole {H H' : Hp} {m : Int} {v : V} {b : Bool} (sm : Sm H H') (h : WholeIs K H m v b) : WholeIs K H' m v b := by
  obtain ⟨T, hT, c⟩ := h
  exact ⟨T, sm.tyB hT, c⟩
theorem Sm.fac {H H' : Hp} {lo hi : Int} {v : V} {b : Bool} (sm : Sm H H') (h : FacIs K H lo hi v b) : FacIs K H' lo hi v b := by
  obtain ⟨T, hT, c⟩ := h
  exact ⟨T, sm.tyB hT, c⟩
theorem Sm.tak {H H' : Hp} {h l : Int} {v : V} {b : Bool} (sm : Sm H H') (z : TakIs K H h l v b) : TakIs K H' h l v b := by
  obtain ⟨T, hT, c⟩ := z
  exact ⟨T, sm.tyB hT, c⟩
theorem Sm.listIs {H H' : Hp} {m : Int} {v : V} {b : Bool} (sm : Sm H H') (h : ListIs K H m v b) : ListIs K H' m v b := by
  rcases h with ⟨ty, hty, r⟩ | ⟨a, xs, bs, e, hL, hlen, each, r⟩
  · exact .inl ⟨ty, sm.tyB hty, r⟩
  · exact .inr ⟨a, xs, bs, e, sm.seq hL, hlen, fun i y b hy hb => sm.whole (each i y b hy hb), r⟩
theorem Sm.bad {H H' : Hp} {f : Int} {v : V} (sm : Sm H H') (h : BadParts K H f v) : BadParts K H' f v := by
  rcases h with h | ⟨a, ns, e, hL, r⟩
  · exact .inl (sm.listIs h)
  · exact .inr ⟨a, ns, e, sm.seq hL, r⟩
/-- no number, or one below zero -/
def Odd (K : PySem.W.Frag) (H : Hp) (v : V) : Prop := (∃ T, TyB K H v T ∧ T ≠ "int") ∨ ∃ n : Int, v = .int n ∧ n ≤ -1
theorem Sm.odd {H H' : Hp} {v : V} (sm : Sm H H') (h : Odd K H v) : Odd K H' v := by
  rcases h with ⟨T, hT, ne⟩ | h
  · exact .inl ⟨T, sm.tyB hT, ne⟩
  · exact .inr h
theorem Odd.fac {H : Hp} {lo hi : Int} {v : V} (h0 : 0 ≤ lo) (h : Odd K H v) : FacIs K H lo hi v false := by
  rcases h with ⟨T, hT, ne⟩ | ⟨n, rfl, hn⟩
  · exact ⟨T, hT, .inr ⟨ne, rfl⟩⟩
  · exact ⟨"int", .int n, .inl ⟨n, rfl, by rw [decide_eq_false (by omega)]; rfl⟩⟩
theorem Odd.who {H : Hp} {m : Int} {v : V} (h0 : 0 ≤ m) (h : Odd K H v) : WholeIs K H m v false := by
  rcases h with ⟨T, hT, ne⟩ | ⟨n, rfl, hn⟩
  · exact ⟨T, hT, .inr ⟨ne, rfl⟩⟩
  · exact ⟨"int", .int n, .inl ⟨n, rfl, by rw [decide_eq_false (by omega)]⟩⟩
theorem tak_out {H : Hp} {h l t : Int} (z : t < 1 ∨ h < t ∨ l < t) : TakIs K H h l (.int t) false := by
  refine ⟨"int", .int t, .inl ⟨t, rfl, ?_⟩⟩
  unfold takeB
  by_cases c1 : 1 ≤ t
  · by_cases c2 : t ≤ h
    · rw [decide_eq_true c1, decide_eq_true c2, decide_eq_false (show ¬ t ≤ l by omega)]; rfl
    · rw [decide_eq_true c1, decide_eq_false c2]; rfl
  · rw [decide_eq_false c1]; rfl
theorem tak_yes {H : Hp} {h l t : Int} (h1 : 1 ≤ t) (h2 : t ≤ h) (h3 : t ≤ l) : TakIs K H h l (.int t) true := by
  refine ⟨"int", .int t, .inl ⟨t, rfl, ?_⟩⟩
  unfold takeB
  rw [decide_eq_true h1, decide_eq_true h2, decide_eq_true h3]; rfl
theorem Odd.tak {H : Hp} {h l : Int} {v : V} (z : Odd K H v) : TakIs K H h l v false := by
  rcases z with ⟨T, hT, ne⟩ | ⟨n, rfl, hn⟩
  · exact ⟨T, hT, .inr ⟨ne, rfl⟩⟩
  · exact tak_out (.inl (by omega))
theorem fac_out {H : Hp} {lo hi n : Int} (h : n < lo ∨ hi < n) : FacIs K H lo hi (.int n) false := by
  refine ⟨"int", .int n, .inl ⟨n, rfl, ?_⟩⟩
  by_cases c : lo ≤ n
  · rw [decide_eq_true c, decide_eq_false (show ¬ n ≤ hi by omega)]; rfl
  · rw [decide_eq_false c]; rfl
/-! ### bad sums -/
theorem bad_not {H : Hp} {f : Int} {v : V} {ty : String} (h : TyB K H v ty) (ne : ty ≠ "list") : BadParts K H f v := .inl (.inl ⟨ty, h, ne, rfl⟩)
theorem who_no {H : Hp} {v : V} {T : String} {m : Int} (h : TyB K H v T) (ne : T ≠ "int") : WholeIs K H m v false := ⟨T, h, .inr ⟨ne, rfl⟩⟩
theorem who_low {H : Hp} {m n : Int} (h : n < m) : WholeIs K H m (.int n) false := ⟨"int", .int n, .inl ⟨n, rfl, by rw [decide_eq_false (by omega)]⟩⟩
theorem bad_1 {H : Hp} {f : Int} {a : Addr} {v : V} (h : H a = some (.lst [v])) (h1 : WholeIs K H 1 v false) : BadParts K H f (.ref a) := by
  refine .inl (.inr ⟨a, [v], [false], rfl, SqL.of h, rfl, fun i y b hy hb => ?_, rfl⟩)
  match i, hy, hb with
  | 0, hy, hb =>
    cases hy
    cases hb
    exact h1
theorem bad_2 {H : Hp} {f : Int} {a : Addr} {v1 v2 : V} {b1 : Bool} (h : H a = some (.lst [v1, v2])) (h1 : WholeIs K H 1 v1 b1) (h2 : WholeIs K H 1 v2 false) : BadParts K H f (.ref a) := by
  refine .inl (.inr ⟨a, [v1, v2], [b1, false], rfl, SqL.of h, rfl, fun i y b hy hb => ?_, by cases b1 <;> rfl⟩)
  match i, hy, hb with
  | 0, hy, hb =>
    cases hy
    cases hb
    exact h1
  | 1, hy, hb =>
    cases hy
    cases hb
    exact h2
theorem bad_3 {H : Hp} {f : Int} {a : Addr} {v1 v2 v3 : V} {b1 b2 : Bool} (h : H a = some (.lst [v1, v2, v3])) (h1 : WholeIs K H 1 v1 b1) (h2 : WholeIs K H 1 v2 b2) (h3 : WholeIs K H 1 v3 false) : BadParts K H f (.ref a) := by
  refine .inl (.inr ⟨a, [v1, v2, v3], [b1, b2, false], rfl, SqL.of h, rfl, fun i y b hy hb => ?_, by cases b1 <;> cases b2 <;> rfl⟩)
  match i, hy, hb with
  | 0, hy, hb =>
    cases hy
    cases hb
    exact h1
  | 1, hy, hb =>
    cases hy
    cases hb
    exact h2
  | 2, hy, hb =>
    cases hy
    cases hb
    exact h3
theorem bad_ns {H : Hp} {f : Int} {a : Addr} (ns : List Int) (h : H a = some (.lst (ns.map V.int))) (h1 : ∀ n ∈ ns, 1 ≤ n) (h2 : 0 ≤ ns.sum) (h3 : ns.sum < Bd) (h4 : ns ≠ parts f ns.sum) : BadParts K H f (.ref a) :=
  .inr ⟨a, ns, rfl, SqL.of h, h1, h2, h3, h4⟩
theorem bad_n2 {H : Hp} {a : Addr} (ns : List Int) (h : H a = some (.lst (ns.map V.int))) (h1 : (∀ n ∈ ns, 1 ≤ n) ∧ 0 ≤ ns.sum ∧ ns.sum < 34 ∧ ns ≠ gr (rowR 2 7) ns.sum) : BadParts K H 2 (.ref a) :=
  bad_ns ns h h1.1 h1.2.1 (Int.lt_trans h1.2.2.1 (by decide +kernel)) (two_bad h1.2.1 h1.2.2.1 h1.2.2.2)
theorem bad_n30 {H : Hp} {a : Addr} (ns : List Int) (h : H a = some (.lst (ns.map V.int))) (h1 : (∀ n ∈ ns, 1 ≤ n) ∧ 0 ≤ ns.sum ∧ ns.sum < 33 ∧ ns ≠ gr (rowR 30 31) ns.sum) : BadParts K H 30 (.ref a) :=
  bad_ns ns h h1.1 h1.2.1 (Int.lt_trans h1.2.2.1 (by decide +kernel)) (thirty_bad h1.2.1 h1.2.2.1 h1.2.2.2)
/-! ### the askers refuse -/
theorem ref_factor {D : Nat → Addr} {d : Int} {v : V} {H : Hp} (h : FacIs K H 1 30 v false) : Refuses D (spWithFactor K D) 0 (.int d) v H := fun Q E hE => ⟨d, v, rfl, h, hE H (Sm.refl H)⟩
theorem ref_heap {D : Nat → Addr} {d : Int} {v : V} {H : Hp} (h : WholeIs K H 0 v false) : Refuses D (spWithHeap K D) 1 (.int d) v H := fun Q E hE => ⟨d, v, rfl, h, hE H (Sm.refl H)⟩
theorem ref_limit {D : Nat → Addr} {d : Int} {v : V} {H : Hp} (h : WholeIs K H 0 v false) : Refuses D (spWithLimit K D) 2 (.int d) v H := fun Q E hE => ⟨d, v, rfl, h, hE H (Sm.refl H)⟩
theorem ref_number {D : Nat → Addr} {d : Int} {v : V} {H : Hp} (d0 : 0 ≤ d) (d1 : d ≤ 1) (h : FacIs K H 0 3000 v false) : Refuses D (spWithNumber K D) 3 (.int d) v H := fun Q E hE => ⟨d, v, rfl, d0, d1, h, hE H (Sm.refl H)⟩
theorem ref_sum {D : Nat → Addr} {T : Addr} {f : Int} {v : V} {H : Hp} (h1 : 1 ≤ f) (h30 : f ≤ 30) (h : BadParts K H f v) (hT : GxR.TabG H T) : Refuses D (spWithSum K D T) 4 (.int f) v H := fun Q E hE => ⟨f, v, rfl, h1, h30, h, hT, hE⟩
theorem ref_taking {D : Nat → Addr} {a : Addr} {f h l : Int} {v : V} {H : Hp} (hW : SqT K H a [.int f, .int h, .int l]) (h1 : 1 ≤ f) (h30 : f ≤ 30) (h0 : 0 ≤ h) (l0 : 0 ≤ l) (ht : TakIs K H h l v false) : Refuses D (spWithTaking K D) 5 (.ref a) v H := fun Q E hE => ⟨a, f, h, l, v, rfl, hW, h1, h30, h0, l0, ht, hE H (Sm.refl H)⟩
/-- a def of the text that keeps its promise, as its callers want it -/
def DfC (CX : CXT) (P : Program) (w : World) (K : PySem.W.Frag) (mg : Str → Option Value) (base : Heap) (x : Str) (k : Nat) (ps : List Str) (sp : Sp) : Prop :=
  ∃ (f : Addr) (fd : FuncData), FnOk P w K mg base CX k f fd ps sp ∧ PySem.W.keepIn K (.ref f) = true ∧ Binds K fd ps [] ∧ mg x = some (.ref f)
theorem due_eq : ∀ i : Nat, i < 6 → [V.bl (decide (V.int (0 + (i : Int)) = V.int 0)), V.bl (decide (V.int (0 + (i : Int)) = V.int 1)), V.bl (decide (V.int (0 + (i : Int)) = V.int 2)), V.bl (decide (V.int (0 + (i : Int)) = V.int 3)), V.bl (decide (V.int (0 + (i : Int)) = V.int 4)), V.bl (decide (V.int (0 + (i : Int)) = V.int 5)), V.bl true] = dueV i
  | 0, _ => rfl
  | 1, _ => rfl
  | 2, _ => rfl
  | 3, _ => rfl
  | 4, _ => rfl
  | 5, _ => rfl
  | n + 6, h => absurd h (by omega)
end
end TA
set_option Elab.async false
set_option linter.all false
set_option maxRecDepth 100000
set_option maxHeartbeats 8000000
namespace TA
open PySem PySem.Spec PyProof.Rows L2
theorem zmem {zs : List Int} {d : V} (h : d ∈ zs.map V.int) : ∃ z, z ∈ zs ∧ d = .int z := by
  obtain ⟨z, hz, e⟩ := List.mem_map.mp h
  exact ⟨z, hz, e.symm⟩
section
variable {P : Program} {w : World} {K : PySem.W.Frag} {mg : Str → Option Value} {base : Heap}
def spLaw (K : PySem.W.Frag) (T : Addr) : Sp := fun vs H Q _ => ∃ (a : Addr) (ns : List Int), vs = [.ref a] ∧ SqL K H a (ns.map V.int) ∧ (∀ z ∈ ns, Bits z) ∧ GxR.TabG H T ∧ ∀ H', Q (.bl true) H'
abbrev nLaw : List Str := ["_law_script", "_law_far", "_law_due", "_law_k", "_law_strange", "_law_bad", "_law_factor_here", "_law_heap", "_law_limit", "_law_most", "_law_where", "_law_taking", "_law_after"]
theorem scLaw : FnScope nLaw ["_law_script"] (defScope sLaw) := ⟨rfl, rfl, rfl, by decide +kernel, rfl, by decide +kernel, by decide +kernel⟩
theorem ok_law {D : Nat → Addr} {f T : Addr} {fd : FuncData} (F : Fun K "law" "law" sLaw f fd)
    (D_l_cell_at : DfC (CX0) P w K mg base "_law_cell_at" 1 ["_law_script", "_law_k"] (spCellAt K))
    (D_l_value : DfC (CX0) P w K mg base "_law_value" 2 ["_law_cell", "_law_k", "_law_limit"] (spValue))
    (D_l_factor : DfC (CX0) P w K mg base "_law_factor" 2 ["_law_script", "_law_k"] (spFactor K))
    (D_l_told : DfC (CX0) P w K mg base "_law_told" 7 ["_law_ask", "_law_one", "_law_other"] (spLTold P w K mg base D))
    (D_l_all : DfC (CX0) P w K mg base "_law_all" 8 ["_law_ask", "_law_doors", "_law_things", "_law_due"] (spLAll P w K mg base D))
    (D_behind : DfC (L2.CX P w) P w K mg base "behind" 4 ["factor", "heap", "limit", "taking"] (spXBehind K D))
    (D_whole : DfC (L2.CX P w) P w K mg base "whole" 5 ["factor", "parts"] (spXWhole K D T))
    (D_step_by : DfC (L2.CX P w) P w K mg base "step_by" 3 ["factor", "number"] (spXStepBy K D))
    (D_l_with_factor : DfC (L2.CX P w) P w K mg base "_law_with_factor" 6 ["_law_door", "_law_factor_here"] (spWithFactor K D))
    (D_l_with_heap : DfC (L2.CX P w) P w K mg base "_law_with_heap" 6 ["_law_door", "_law_heap"] (spWithHeap K D))
    (D_l_with_limit : DfC (L2.CX P w) P w K mg base "_law_with_limit" 6 ["_law_door", "_law_limit"] (spWithLimit K D))
    (D_l_with_number : DfC (L2.CX P w) P w K mg base "_law_with_number" 6 ["_law_door", "_law_number"] (spWithNumber K D))
    (D_l_with_sum : DfC (L2.CX P w) P w K mg base "_law_with_sum" 6 ["_law_factor_here", "_law_parts"] (spWithSum K D T))
    (D_l_with_taking : DfC (L2.CX P w) P w K mg base "_law_with_taking" 6 ["_law_where", "_law_taking"] (spWithTaking K D))
    (m_range : mg "range" = none) (m_min : mg "min" = none) :
    FnOk P w K mg base CX0 9 f fd ["_law_script"] (spLaw K T) := by
  refine F.ok scLaw (fun vs H Q E h => ?_) (fun cdv A outer s H vs Q E hr h => ?_)
  · obtain ⟨a, ns, rfl, _⟩ := h
    rfl
  · obtain ⟨a, ns, rfl, hS0, hbits, hT0, q⟩ := h
    obtain ⟨f_l_cell_at, fd_l_cell_at, G_l_cell_at, k_l_cell_at, b_l_cell_at, g_l_cell_at⟩ := D_l_cell_at
    obtain ⟨f_l_value, fd_l_value, G_l_value, k_l_value, b_l_value, g_l_value⟩ := D_l_value
    obtain ⟨f_l_factor, fd_l_factor, G_l_factor, k_l_factor, b_l_factor, g_l_factor⟩ := D_l_factor
    obtain ⟨f_l_told, fd_l_told, G_l_told, k_l_told, b_l_told, g_l_told⟩ := D_l_told
    obtain ⟨f_l_all, fd_l_all, G_l_all, k_l_all, b_l_all, g_l_all⟩ := D_l_all
    obtain ⟨f_behind, fd_behind, G_behind, k_behind, b_behind, g_behind⟩ := D_behind
    obtain ⟨f_whole, fd_whole, G_whole, k_whole, b_whole, g_whole⟩ := D_whole
    obtain ⟨f_step_by, fd_step_by, G_step_by, k_step_by, b_step_by, g_step_by⟩ := D_step_by
    obtain ⟨f_l_with_factor, fd_l_with_factor, G_l_with_factor, k_l_with_factor, b_l_with_factor, g_l_with_factor⟩ := D_l_with_factor
    obtain ⟨f_l_with_heap, fd_l_with_heap, G_l_with_heap, k_l_with_heap, b_l_with_heap, g_l_with_heap⟩ := D_l_with_heap
    obtain ⟨f_l_with_limit, fd_l_with_limit, G_l_with_limit, k_l_with_limit, b_l_with_limit, g_l_with_limit⟩ := D_l_with_limit
    obtain ⟨f_l_with_number, fd_l_with_number, G_l_with_number, k_l_with_number, b_l_with_number, g_l_with_number⟩ := D_l_with_number
    obtain ⟨f_l_with_sum, fd_l_with_sum, G_l_with_sum, k_l_with_sum, b_l_with_sum, g_l_with_sum⟩ := D_l_with_sum
    obtain ⟨f_l_with_taking, fd_l_with_taking, G_l_with_taking, k_l_with_taking, b_l_with_taking, g_l_with_taking⟩ := D_l_with_taking
    have r_l_cell_at : Room 1 _ := hr.mono (by decide)
    have r_l_value : Room 2 _ := hr.mono (by decide)
    have r_l_factor : Room 2 _ := hr.mono (by decide)
    have r_l_told : Room 7 _ := hr.mono (by decide)
    have r_l_all : Room 8 _ := hr.mono (by decide)
    have r_behind : Room 4 _ := hr.mono (by decide)
    have r_whole : Room 5 _ := hr.mono (by decide)
    have r_step_by : Room 3 _ := hr.mono (by decide)
    have A_l_with_factor : Asker P w K mg base f_l_with_factor (spWithFactor K D) := ⟨⟨_, _, G_l_with_factor, k_l_with_factor, b_l_with_factor⟩⟩
    have A_l_with_heap : Asker P w K mg base f_l_with_heap (spWithHeap K D) := ⟨⟨_, _, G_l_with_heap, k_l_with_heap, b_l_with_heap⟩⟩
    have A_l_with_limit : Asker P w K mg base f_l_with_limit (spWithLimit K D) := ⟨⟨_, _, G_l_with_limit, k_l_with_limit, b_l_with_limit⟩⟩
    have A_l_with_number : Asker P w K mg base f_l_with_number (spWithNumber K D) := ⟨⟨_, _, G_l_with_number, k_l_with_number, b_l_with_number⟩⟩
    have A_l_with_sum : Asker P w K mg base f_l_with_sum (spWithSum K D T) := ⟨⟨_, _, G_l_with_sum, k_l_with_sum, b_l_with_sum⟩⟩
    have A_l_with_taking : Asker P w K mg base f_l_with_taking (spWithTaking K D) := ⟨⟨_, _, G_l_with_taking, k_l_with_taking, b_l_with_taking⟩⟩
    refine ⟨_, (pss_cons (ps_set (i := 1) scLaw.nd rfl (Or.inl rfl) (pe_call G_l_value r_l_value (by rfl) g_l_value k_l_value b_l_value .nil pass0 (pa_cons (pe_call G_l_cell_at r_l_cell_at (by rfl) g_l_cell_at k_l_cell_at b_l_cell_at .nil pass0 (pa_cons (pv 0) (pa_cons pe_int pa_nil))) (pa_cons pe_int (pa_cons pe_int pa_nil)))))
      (pss_cons (ps_set (i := 2) scLaw.nd rfl (Or.inl rfl) (pe_lst pa_nil))
      (pss_cons (ps_for PassesOwn.never rfl (pi_range1 (by rfl) m_range (pa_cons pe_int pa_nil)) (pg_name (i := 3) scLaw.nd rfl (Or.inl rfl))
        (pss_one (ps_expr (pe_bm PySem.F.plainAttrs_list PySem.F.slot_list_append PySem.F.type_list_append mt_append (pv 2) (pa_cons (pe_lst (pa_cons (pe_cmpR op_eq (pv 3) pe_int (nomark _)) (pa_cons (pe_cmpR op_eq (pv 3) pe_int (nomark _)) (pa_cons (pe_cmpR op_eq (pv 3) pe_int (nomark _)) (pa_cons (pe_cmpR op_eq (pv 3) pe_int (nomark _)) (pa_cons (pe_cmpR op_eq (pv 3) pe_int (nomark _)) (pa_cons (pe_cmpR op_eq (pv 3) pe_int (nomark _)) (pa_cons pe_bl pa_nil)))))))) pa_nil)))))
      (pss_cons (ps_set (i := 4) scLaw.nd rfl (Or.inl rfl) (pe_lst (pa_cons pe_non (pa_cons pe_str (pa_cons pe_bl (pa_cons pe_bl (pa_cons (pe_lst (pa_cons pe_int pa_nil)) (pa_cons (pe_tup (pa_cons pe_int pa_nil)) (pa_cons pe_dnewK (pa_cons (pe_un un_neg pe_int) (pa_cons (pe_op op_sub (pe_un un_neg pe_int) (pv 1)) pa_nil)))))))))))
      (pss_cons (ps_if (pt_not (pt_val (pe_call G_l_all r_l_all (by rfl) g_l_all k_l_all b_l_all .nil pass0 (pa_cons (pe_glob (v := .ref f_l_with_factor) (by rfl) g_l_with_factor rfl) (pa_cons (pe_lst (pa_cons pe_int (pa_cons pe_int (pa_cons pe_int (pa_cons pe_int (pa_cons pe_int pa_nil)))))) (pa_cons (pe_op op_cat (pv 4) (pe_lst (pa_cons pe_int (pa_cons pe_int (pa_cons (pe_op op_add pe_int (pv 1)) pa_nil))))) (pa_cons (pe_ix ix_list (pv 2) pe_int (fun _ _ => rfl)) pa_nil))))))) pss_never pss_nil)
      (pss_cons (ps_if (pt_not (pt_val (pe_call G_l_all r_l_all (by rfl) g_l_all k_l_all b_l_all .nil pass0 (pa_cons (pe_glob (v := .ref f_l_with_heap) (by rfl) g_l_with_heap rfl) (pa_cons (pe_lst (pa_cons pe_int (pa_cons pe_int (pa_cons pe_int pa_nil)))) (pa_cons (pv 4) (pa_cons (pe_ix ix_list (pv 2) pe_int (fun _ _ => rfl)) pa_nil))))))) pss_never pss_nil)
      (pss_cons (ps_if (pt_not (pt_val (pe_call G_l_all r_l_all (by rfl) g_l_all k_l_all b_l_all .nil pass0 (pa_cons (pe_glob (v := .ref f_l_with_limit) (by rfl) g_l_with_limit rfl) (pa_cons (pe_lst (pa_cons pe_int (pa_cons pe_int pa_nil))) (pa_cons (pv 4) (pa_cons (pe_ix ix_list (pv 2) pe_int (fun _ _ => rfl)) pa_nil))))))) pss_never pss_nil)
      (pss_cons (ps_if (pt_not (pt_val (pe_call G_l_all r_l_all (by rfl) g_l_all k_l_all b_l_all .nil pass0 (pa_cons (pe_glob (v := .ref f_l_with_number) (by rfl) g_l_with_number rfl) (pa_cons (pe_lst (pa_cons pe_int (pa_cons pe_int pa_nil))) (pa_cons (pe_op op_cat (pv 4) (pe_lst (pa_cons pe_int (pa_cons (pe_op op_add pe_int (pv 1)) pa_nil)))) (pa_cons (pe_ix ix_list (pv 2) pe_int (fun _ _ => rfl)) pa_nil))))))) pss_never pss_nil)
      (pss_cons (ps_set (i := 5) scLaw.nd rfl (Or.inl rfl) (pe_lst (pa_cons pe_non (pa_cons (pe_tup pa_nil) (pa_cons (pe_tup (pa_cons pe_int (pa_cons pe_int pa_nil))) (pa_cons pe_str (pa_cons pe_dnewK (pa_cons pe_int (pa_cons (pe_lst (pa_cons pe_non pa_nil)) (pa_cons (pe_lst (pa_cons pe_str pa_nil)) (pa_cons (pe_lst (pa_cons pe_bl pa_nil)) (pa_cons (pe_lst (pa_cons pe_int pa_nil)) (pa_cons (pe_lst (pa_cons pe_int (pa_cons pe_int pa_nil))) (pa_cons (pe_lst (pa_cons (pe_un un_neg pe_int) pa_nil)) (pa_cons (pe_lst (pa_cons pe_int (pa_cons (pe_op op_sub (pe_un un_neg pe_int) (pv 1)) pa_nil))) (pa_cons (pe_lst (pa_cons pe_int pa_nil)) (pa_cons (pe_lst (pa_cons pe_int pa_nil)) pa_nil)))))))))))))))))
      (pss_cons (ps_set (i := 5) scLaw.nd rfl (Or.inl rfl) (pe_op op_cat (pv 5) (pe_lst (pa_cons (pe_lst (pa_cons pe_int (pa_cons pe_int pa_nil))) (pa_cons (pe_lst (pa_cons pe_int (pa_cons pe_int pa_nil))) (pa_cons (pe_lst (pa_cons pe_int (pa_cons pe_int pa_nil))) (pa_cons (pe_lst (pa_cons pe_int (pa_cons pe_int pa_nil))) (pa_cons (pe_lst (pa_cons pe_int (pa_cons pe_int pa_nil))) (pa_cons (pe_lst (pa_cons pe_int (pa_cons pe_int pa_nil))) (pa_cons (pe_lst (pa_cons pe_int (pa_cons pe_int (pa_cons pe_int pa_nil)))) (pa_cons (pe_lst (pa_cons pe_int (pa_cons pe_int (pa_cons pe_bl pa_nil)))) (pa_cons (pe_lst (pa_cons pe_int (pa_cons pe_int pa_nil))) (pa_cons (pe_lst (pa_cons (pe_op op_pow pe_int pe_int) (pa_cons pe_int pa_nil))) pa_nil)))))))))))))
      (pss_cons (ps_set (i := 5) scLaw.nd rfl (Or.inl rfl) (pe_op op_cat (pv 5) (pe_lst (pa_cons (pe_lst (pa_cons (pe_lst (pa_cons pe_int pa_nil)) pa_nil)) (pa_cons (pe_lst (pa_cons pe_int (pa_cons pe_int (pa_cons pe_int pa_nil)))) pa_nil)))))
      (pss_cons (ps_if (pt_not (pt_val (pe_call G_l_all r_l_all (by rfl) g_l_all k_l_all b_l_all .nil pass0 (pa_cons (pe_glob (v := .ref f_l_with_sum) (by rfl) g_l_with_sum rfl) (pa_cons (pe_lst (pa_cons pe_int pa_nil)) (pa_cons (pv 5) (pa_cons (pe_ix ix_list (pv 2) pe_int (fun _ _ => rfl)) pa_nil))))))) pss_never pss_nil)
      (pss_cons (ps_if (pt_not (pt_val (pe_call G_l_all r_l_all (by rfl) g_l_all k_l_all b_l_all .nil pass0 (pa_cons (pe_glob (v := .ref f_l_with_sum) (by rfl) g_l_with_sum rfl) (pa_cons (pe_lst (pa_cons pe_int pa_nil)) (pa_cons (pe_lst (pa_cons (pe_lst (pa_cons pe_int (pa_cons pe_int pa_nil))) (pa_cons (pe_lst (pa_cons pe_int (pa_cons pe_int pa_nil))) (pa_cons (pe_lst (pa_cons pe_int pa_nil)) (pa_cons (pe_lst (pa_cons pe_int pa_nil)) pa_nil))))) (pa_cons (pe_ix ix_list (pv 2) pe_int (fun _ _ => rfl)) pa_nil))))))) pss_never pss_nil)
      (pss_cons (ps_set (i := 6) scLaw.nd rfl (Or.inl rfl) (pe_call G_l_factor r_l_factor (by rfl) g_l_factor k_l_factor b_l_factor .nil pass0 (pa_cons (pv 0) (pa_cons pe_int pa_nil))))
      (pss_cons (ps_for PassesOwn.never rfl (pi_tup (pe_tup (pa_cons (pe_tup (pa_cons (pe_op op_add pe_int (pv 1)) (pa_cons pe_int pa_nil))) (pa_cons (pe_tup (pa_cons pe_int (pa_cons (pe_op op_add pe_int (pv 1)) pa_nil))) (pa_cons (pe_tup (pa_cons pe_int (pa_cons pe_int pa_nil))) (pa_cons (pe_tup (pa_cons pe_int (pa_cons pe_int pa_nil))) (pa_cons (pe_tup (pa_cons pe_int (pa_cons pe_int pa_nil))) pa_nil))))))) (pg_tup (by rfl) (pgs_cons (pg_name (i := 7) scLaw.nd rfl (Or.inl rfl)) (pgs_cons (pg_name (i := 8) scLaw.nd rfl (Or.inl rfl)) pgs_nil)))
        (pss_cons (ps_par (i := 9) (j := 10) (by rfl) scLaw.nd rfl rfl (by decide) rfl rfl (pa_cons (pe_callB (call_min2 rfl) (by rfl) m_min (by decide +kernel) (pa_cons (pv 7) (pa_cons (pv 8) pa_nil))) (pa_cons (pe_tup (pa_cons (pv 6) (pa_cons (pv 7) (pa_cons (pv 8) pa_nil)))) pa_nil)) (by rfl))
        (pss_cons (ps_for PassesOwn.never rfl (pi_list (pe_op op_cat (pv 4) (pe_lst (pa_cons pe_int (pa_cons (pe_op op_add (pv 9) pe_int) (pa_cons (pe_op op_add (pe_op op_add (pv 9) pe_int) (pv 1)) pa_nil)))))) (pg_name (i := 11) scLaw.nd rfl (Or.inl rfl))
          (pss_one (ps_if (pt_cmpR (op_neB hr.units) (pe_call G_l_told r_l_told (by rfl) g_l_told k_l_told b_l_told .nil pass0 (pa_cons (pe_glob (v := .ref f_l_with_taking) (by rfl) g_l_with_taking rfl) (pa_cons (pv 10) (pa_cons (pv 11) pa_nil)))) (pe_ix ix_list (pv 2) pe_int (fun _ _ => rfl)) (nomark _)) pss_never pss_nil)))
        (pss_cons (ps_set (i := 12) scLaw.nd rfl (Or.inl rfl) (pe_tup (pa_cons (pe_op op_sub (pv 7) (pv 9)) (pa_cons (pe_op op_mul (pv 6) (pv 9)) pa_nil))))
        (pss_one (ps_if (PW.pt (pw_and (pt_cmpR op_gt (pv 9) pe_int (nomark _)) (pw_and1 (pt_cmpR (op_neTu hr.units) (pe_call G_behind r_behind (by rfl) g_behind k_behind b_behind .nil passL (pa_cons (pv 6) (pa_cons (pv 7) (pa_cons (pv 8) (pa_cons (pv 9) pa_nil))))) (pv 12) (nomark _))))) pss_never pss_nil))))))
      (pss_one (ps_ret (pe_and (pe_cmpR op_eq (pe_call G_whole r_whole (by rfl) g_whole k_whole b_whole .nil passL (pa_cons pe_int (pa_cons (pe_lst (pa_cons pe_int (pa_cons pe_int pa_nil))) pa_nil))) pe_int (nomark _)) (pe_and (pe_cmpR op_eq (pe_call G_step_by r_step_by (by rfl) g_step_by k_step_by b_step_by .nil passL (pa_cons pe_int (pa_cons pe_int pa_nil))) (pe_op op_shl pe_int pe_int) (nomark _)) (pe_one (pe_cmpR op_eq (pe_call G_step_by r_step_by (by rfl) g_step_by k_step_by b_step_by .nil passL (pa_cons pe_int (pa_cons pe_int pa_nil))) pe_int (nomark _)))))))))))))))))))))), ?_⟩
    refine ⟨.ref a, rfl, a, ns, 0, rfl, hS0, Int.le_refl 0, fun c hc => ?_⟩
    have hcB : Bits c := by
      rcases hc with rfl | hc
      · show Builtin.Int.intBits 0 ≤ 1048576; decide
      · exact hbits c hc
    refine ⟨c, 3, 900000, rfl, hcB, by decide, by decide, by decide, by decide, fun far H1 far0 far1 sv => ?_⟩
    have s1 : Sm H H1 := Sm.of sv
    refine ⟨Nat.zero_le _, fun du ndu => ?_⟩
    refine ⟨6, rfl, by decide, by decide, for_range (n := 6) (fun i σ H' => ∃ (v3 : Option V) (rs : List V), σ = [some (.ref a), some (.int far), some (.ref du), v3, none, none, none, none, none, none, none, none, none] ∧ Sm H1 H' ∧ H' du = some (.lst rs) ∧ rs.length = i ∧ ∀ (j : Nat) (x : V), rs[j]? = some x → ∃ r, x = .ref r ∧ r ≠ du ∧ H' r = some (.lst (dueV j))) ⟨none, [], rfl, Sm.upd ndu, upd_same, rfl, fun j x h => by cases h⟩ ?_ ?_⟩
    · rintro i σ H2 hi ⟨v3, rs, rfl, sm, hdu, hlen, hrs⟩
      refine ⟨.ref du, rfl, .inl ⟨rfl, _, SqL.of hdu⟩, _, rfl, rfl, _, rfl, rfl, _, rfl, rfl, _, rfl, rfl, _, rfl, rfl, _, rfl, rfl, (by show 7 ≤ sizeLine; decide), fun r nr => ?_⟩
      have hdr : du ≠ r := ne_of_none hdu nr
      rw [due_eq i hi]
      refine ⟨du, _, _, rfl, rfl, (by rw [upd_ne hdr]; exact hdu), (by rw [hlen]; exact small_line (by omega)), _, _, rfl, (sm.trans (Sm.upd nr)).new ndu, upd_same, by rw [List.length_append, hlen]; rfl, fun j x hx => ?_⟩
      by_cases c : j < rs.length
      · rw [List.getElem?_append_left c] at hx
        obtain ⟨r1, e1, n1, h1⟩ := hrs j x hx
        exact ⟨r1, e1, n1, by rw [upd_ne n1, upd_ne (ne_of_none h1 nr)]; exact h1⟩
      · rw [List.getElem?_append_right (by omega)] at hx
        have ej : j - rs.length = 0 := by
          have := (List.getElem?_eq_some_iff.mp hx).1
          simp only [List.length_singleton] at this
          omega
        rw [ej] at hx
        cases hx
        have ej2 : j = i := by omega
        subst ej2
        exact ⟨r, rfl, Ne.symm hdr, by rw [upd_ne (Ne.symm hdr), upd_same]⟩
    rintro σ G0 ⟨v3, rs, rfl, smG, hdu, hlen, hrs⟩
    obtain ⟨x0, x1, x2, x3, x4, x5, rfl⟩ : ∃ x0 x1 x2 x3 x4 x5, rs = [x0, x1, x2, x3, x4, x5] := by
      match rs, hlen with
      | [x0, x1, x2, x3, x4, x5], _ => exact ⟨_, _, _, _, _, _, rfl⟩
    obtain ⟨d0, rfl, _, hd0⟩ := hrs 0 x0 rfl
    obtain ⟨d1, rfl, _, hd1⟩ := hrs 1 x1 rfl
    obtain ⟨d2, rfl, _, hd2⟩ := hrs 2 x2 rfl
    obtain ⟨d3, rfl, _, hd3⟩ := hrs 3 x3 rfl
    obtain ⟨d4, rfl, _, hd4⟩ := hrs 4 x4 rfl
    obtain ⟨d5, rfl, _, hd5⟩ := hrs 5 x5 rfl
    have sG := s1.trans smG
    have hS1 := sG.seq hS0
    have hT1 := sG.tab hT0
    clear hS0 hT0 hrs hlen smG sG
    refine ⟨(by show 1 ≤ sizeLine; decide), fun l1 nl1 => ?_⟩
    have s_1 : Sm G0 (upd G0 l1 (.lst [.int 1])) := Sm.upd nl1
    have hl1 : (upd G0 l1 (.lst [.int 1])) l1 = some (.lst [.int 1]) := upd_same
    generalize upd G0 l1 (.lst [.int 1]) = G1 at s_1 hl1 ⊢
    refine ⟨(by show 1 ≤ sizeLine; decide), fun t1 nt1 => ?_⟩
    have s_2 : Sm G1 (upd G1 t1 (.tup [.int 1])) := Sm.upd nt1
    have ht1 : (upd G1 t1 (.tup [.int 1])) t1 = some (.tup [.int 1]) := upd_same
    generalize upd G1 t1 (.tup [.int 1]) = G2 at s_2 ht1 ⊢
    refine fun e1 ne1 => ?_
    have s_3 : Sm G2 (upd G2 e1 (.dK [])) := Sm.upd ne1
    have he1 : (upd G2 e1 (.dK [])) e1 = some (.dK []) := upd_same
    generalize upd G2 e1 (.dK []) = G3 at s_3 he1 ⊢
    refine ⟨1, rfl, 1, rfl, _, rfl, _, _, rfl, rfl, (by show 9 ≤ sizeLine; decide), fun pS npS => ?_⟩
    have s_4 : Sm G3 (upd G3 pS (.lst [.non, .str "1", .bl true, .bl false, .ref l1, .ref t1, .ref e1, .int (-1), .int (-1 - far)])) := Sm.upd npS
    have hpS : (upd G3 pS (.lst [.non, .str "1", .bl true, .bl false, .ref l1, .ref t1, .ref e1, .int (-1), .int (-1 - far)])) pS = some (.lst [.non, .str "1", .bl true, .bl false, .ref l1, .ref t1, .ref e1, .int (-1), .int (-1 - far)]) := upd_same
    generalize upd G3 pS (.lst [.non, .str "1", .bl true, .bl false, .ref l1, .ref t1, .ref e1, .int (-1), .int (-1 - far)]) = G4 at s_4 hpS ⊢
    have hOdd : ∀ v ∈ ([.non, .str "1", .bl true, .bl false, .ref l1, .ref t1, .ref e1, .int (-1), .int (-1 - far)] : List V), Odd K G4 v := fun v hv => by
      have z3 : Sm G3 G4 := s_4
      have z2 : Sm G2 G4 := s_3.trans z3
      have z1 : Sm G1 G4 := s_2.trans z2
      simp only [List.mem_cons, List.not_mem_nil, or_false] at hv
      rcases hv with rfl | rfl | rfl | rfl | rfl | rfl | rfl | rfl | rfl
      · exact .inl ⟨_, .non, by decide⟩
      · exact .inl ⟨_, .str _, by decide⟩
      · exact .inl ⟨_, .bl _, by decide⟩
      · exact .inl ⟨_, .bl _, by decide⟩
      · exact .inl ⟨_, .lst (SqL.of (z1.lst hl1)), by decide⟩
      · exact .inl ⟨_, .tup (SqT.of (z2.tup ht1)), by decide⟩
      · exact .inl ⟨_, .dK (z3.dK he1), by decide⟩
      · exact .inr ⟨_, rfl, by omega⟩
      · exact .inr ⟨_, rfl, by omega⟩
    have hlS : ([.non, .str "1", .bl true, .bl false, .ref l1, .ref t1, .ref e1, .int (-1), .int (-1 - far)] : List V).length = 9 := rfl
    generalize ([.non, .str "1", .bl true, .bl false, .ref l1, .ref t1, .ref e1, .int (-1), .int (-1 - far)] : List V) = SV at hpS hOdd hlS
    have zb : Sm G0 G4 := s_1.trans (s_2.trans (s_3.trans s_4))
    replace hdu := zb.lst hdu
    replace hd0 := zb.lst hd0
    replace hd1 := zb.lst hd1
    replace hd2 := zb.lst hd2
    replace hd3 := zb.lst hd3
    replace hd4 := zb.lst hd4
    replace hd5 := zb.lst hd5
    replace hS1 := zb.seq hS1
    replace hT1 := zb.tab hT1
    clear s_1 s_2 s_3 s_4 hl1 ht1 he1 zb
    have c_4 : Sm G4 G4 := Sm.refl _
    have rF : ∀ d ∈ (([0, 1, 2, 3, 4] : List Int).map V.int), ∀ t ∈ SV ++ ([0, 31, 31 + far] : List Int).map V.int, ∀ Hx, Sm G4 Hx → Refuses D (spWithFactor K D) 0 d t Hx := fun d hd t ht Hx sx => by
      obtain ⟨y, hy, rfl⟩ := zmem hd
      simp only [List.mem_cons, List.not_mem_nil, or_false] at hy
      rcases List.mem_append.mp ht with ht | ht
      · exact ref_factor (Odd.fac (by decide) (sx.odd (hOdd t ht)))
      · obtain ⟨z, hz, rfl⟩ := zmem ht
        simp only [List.mem_cons, List.not_mem_nil, or_false] at hz
        exact ref_factor (fac_out (by omega))
    have rH : ∀ d ∈ (([0, 1, 2] : List Int).map V.int), ∀ t ∈ SV, ∀ Hx, Sm G4 Hx → Refuses D (spWithHeap K D) 1 d t Hx := fun d hd t ht Hx sx => by
      obtain ⟨y, hy, rfl⟩ := zmem hd
      simp only [List.mem_cons, List.not_mem_nil, or_false] at hy
      exact ref_heap (Odd.who (by decide) (sx.odd (hOdd t ht)))
    have rL : ∀ d ∈ (([0, 1] : List Int).map V.int), ∀ t ∈ SV, ∀ Hx, Sm G4 Hx → Refuses D (spWithLimit K D) 2 d t Hx := fun d hd t ht Hx sx => by
      obtain ⟨y, hy, rfl⟩ := zmem hd
      simp only [List.mem_cons, List.not_mem_nil, or_false] at hy
      exact ref_limit (Odd.who (by decide) (sx.odd (hOdd t ht)))
    have rN : ∀ d ∈ (([0, 1] : List Int).map V.int), ∀ t ∈ SV ++ ([3001, 3001 + far] : List Int).map V.int, ∀ Hx, Sm G4 Hx → Refuses D (spWithNumber K D) 3 d t Hx := fun d hd t ht Hx sx => by
      obtain ⟨y, hy, rfl⟩ := zmem hd
      simp only [List.mem_cons, List.not_mem_nil, or_false] at hy
      rcases List.mem_append.mp ht with ht | ht
      · exact ref_number (by omega) (by omega) (Odd.fac (by decide) (sx.odd (hOdd t ht)))
      · obtain ⟨z, hz, rfl⟩ := zmem ht
        simp only [List.mem_cons, List.not_mem_nil, or_false] at hz
        exact ref_number (by omega) (by omega) (fac_out (by omega))
    refine ⟨(by show 5 ≤ sizeLine; decide), fun p11 np11 => ?_⟩
    have s_5 : Sm G4 (upd G4 p11 (.lst [.int 0, .int 1, .int 2, .int 3, .int 4])) := Sm.upd np11
    have hp11 : (upd G4 p11 (.lst [.int 0, .int 1, .int 2, .int 3, .int 4])) p11 = some (.lst [.int 0, .int 1, .int 2, .int 3, .int 4]) := upd_same
    generalize upd G4 p11 (.lst [.int 0, .int 1, .int 2, .int 3, .int 4]) = G5 at s_5 hp11 ⊢
    refine ⟨_, rfl, _, rfl, _, _, rfl, rfl, (by show 3 ≤ sizeLine; decide), fun p12 np12 => ?_⟩
    have s_6 : Sm G5 (upd G5 p12 (.lst [.int 0, .int 31, .int (31 + far)])) := Sm.upd np12
    have hp12 : (upd G5 p12 (.lst [.int 0, .int 31, .int (31 + far)])) p12 = some (.lst [.int 0, .int 31, .int (31 + far)]) := upd_same
    generalize upd G5 p12 (.lst [.int 0, .int 31, .int (31 + far)]) = G6 at s_6 hp12 ⊢
    have c_5 := c_4.trans s_5
    have c_6 := c_5.trans s_6
    refine ⟨pS, p12, _, _, rfl, rfl, c_6.lst hpS, hp12, (by rw [hlS]; show 9 + 3 ≤ sizeLine; decide), fun p13 np13 => ?_⟩
    have s_7 : Sm G6 (upd G6 p13 (.lst (SV ++ [.int 0, .int 31, .int (31 + far)]))) := Sm.upd np13
    have hp13 : (upd G6 p13 (.lst (SV ++ [.int 0, .int 31, .int (31 + far)]))) p13 = some (.lst (SV ++ [.int 0, .int 31, .int (31 + far)])) := upd_same
    generalize upd G6 p13 (.lst (SV ++ [.int 0, .int 31, .int (31 + far)])) = G7 at s_7 hp13 ⊢
    have c_7 := c_6.trans s_7
    refine ⟨_, rfl, du, _, _, _, rfl, rfl, SqL.of (c_7.lst hdu), at_of (j := 0) (by omega) rfl, ?_⟩
    refine ⟨f_l_with_factor, _, 0, p11, p13, d0, _, _, rfl, A_l_with_factor, by decide, SqL.of (s_7.lst (s_6.lst hp11)), SqL.of hp13, SqL.of (c_7.lst hd0), (by rw [List.length_append, hlS]; show 9 + 3 ≤ 1000; decide), fun d hd t ht Hx sx => rF d hd t ht Hx (c_7.trans sx), fun G8 s_8 => ⟨_, rfl, iteF ?_⟩⟩
    have c_8 := c_7.trans s_8
    refine ⟨(by show 3 ≤ sizeLine; decide), fun p21 np21 => ?_⟩
    have s_9 : Sm G8 (upd G8 p21 (.lst [.int 0, .int 1, .int 2])) := Sm.upd np21
    have hp21 : (upd G8 p21 (.lst [.int 0, .int 1, .int 2])) p21 = some (.lst [.int 0, .int 1, .int 2]) := upd_same
    generalize upd G8 p21 (.lst [.int 0, .int 1, .int 2]) = G9 at s_9 hp21 ⊢
    have c_9 := c_8.trans s_9
    refine ⟨_, rfl, ?_⟩
    refine ⟨_, rfl, du, _, _, _, rfl, rfl, SqL.of (c_9.lst hdu), at_of (j := 1) (by omega) rfl, ?_⟩
    refine ⟨f_l_with_heap, _, 1, p21, pS, d1, _, _, rfl, A_l_with_heap, by decide, SqL.of hp21, SqL.of (c_9.lst hpS), SqL.of (c_9.lst hd1), (by rw [hlS]; decide), fun d hd t ht Hx sx => rH d hd t ht Hx (c_9.trans sx), fun G10 s_10 => ⟨_, rfl, iteF ?_⟩⟩
    have c_10 := c_9.trans s_10
    refine ⟨(by show 2 ≤ sizeLine; decide), fun p31 np31 => ?_⟩
    have s_11 : Sm G10 (upd G10 p31 (.lst [.int 0, .int 1])) := Sm.upd np31
    have hp31 : (upd G10 p31 (.lst [.int 0, .int 1])) p31 = some (.lst [.int 0, .int 1]) := upd_same
    generalize upd G10 p31 (.lst [.int 0, .int 1]) = G11 at s_11 hp31 ⊢
    have c_11 := c_10.trans s_11
    refine ⟨_, rfl, ?_⟩
    refine ⟨_, rfl, du, _, _, _, rfl, rfl, SqL.of (c_11.lst hdu), at_of (j := 2) (by omega) rfl, ?_⟩
    refine ⟨f_l_with_limit, _, 2, p31, pS, d2, _, _, rfl, A_l_with_limit, by decide, SqL.of hp31, SqL.of (c_11.lst hpS), SqL.of (c_11.lst hd2), (by rw [hlS]; decide), fun d hd t ht Hx sx => rL d hd t ht Hx (c_11.trans sx), fun G12 s_12 => ⟨_, rfl, iteF ?_⟩⟩
    have c_12 := c_11.trans s_12
    refine ⟨(by show 2 ≤ sizeLine; decide), fun p41 np41 => ?_⟩
    have s_13 : Sm G12 (upd G12 p41 (.lst [.int 0, .int 1])) := Sm.upd np41
    have hp41 : (upd G12 p41 (.lst [.int 0, .int 1])) p41 = some (.lst [.int 0, .int 1]) := upd_same
    generalize upd G12 p41 (.lst [.int 0, .int 1]) = G13 at s_13 hp41 ⊢
    refine ⟨_, rfl, _, rfl, _, _, rfl, rfl, (by show 2 ≤ sizeLine; decide), fun p42 np42 => ?_⟩
    have s_14 : Sm G13 (upd G13 p42 (.lst [.int 3001, .int (3001 + far)])) := Sm.upd np42
    have hp42 : (upd G13 p42 (.lst [.int 3001, .int (3001 + far)])) p42 = some (.lst [.int 3001, .int (3001 + far)]) := upd_same
    generalize upd G13 p42 (.lst [.int 3001, .int (3001 + far)]) = G14 at s_14 hp42 ⊢
    have c_13 := c_12.trans s_13
    have c_14 := c_13.trans s_14
    refine ⟨pS, p42, _, _, rfl, rfl, c_14.lst hpS, hp42, (by rw [hlS]; show 9 + 2 ≤ sizeLine; decide), fun p43 np43 => ?_⟩
    have s_15 : Sm G14 (upd G14 p43 (.lst (SV ++ [.int 3001, .int (3001 + far)]))) := Sm.upd np43
    have hp43 : (upd G14 p43 (.lst (SV ++ [.int 3001, .int (3001 + far)]))) p43 = some (.lst (SV ++ [.int 3001, .int (3001 + far)])) := upd_same
    generalize upd G14 p43 (.lst (SV ++ [.int 3001, .int (3001 + far)])) = G15 at s_15 hp43 ⊢
    have c_15 := c_14.trans s_15
    refine ⟨_, rfl, du, _, _, _, rfl, rfl, SqL.of (c_15.lst hdu), at_of (j := 3) (by omega) rfl, ?_⟩
    refine ⟨f_l_with_number, _, 3, p41, p43, d3, _, _, rfl, A_l_with_number, by decide, SqL.of (s_15.lst (s_14.lst hp41)), SqL.of hp43, SqL.of (c_15.lst hd3), (by rw [List.length_append, hlS]; show 9 + 2 ≤ 1000; decide), fun d hd t ht Hx sx => rN d hd t ht Hx (c_15.trans sx), fun G16 s_16 => ⟨_, rfl, iteF ?_⟩⟩
    have c_16 := c_15.trans s_16
    refine ⟨(by show 0 ≤ sizeLine; decide), fun q1 nq1 => ?_⟩
    have s_17 : Sm G16 (upd G16 q1 (.tup [])) := Sm.upd nq1
    have hq1 : (upd G16 q1 (.tup [])) q1 = some (.tup []) := upd_same
    generalize upd G16 q1 (.tup []) = G17 at s_17 hq1 ⊢
    refine ⟨(by show 2 ≤ sizeLine; decide), fun q2 nq2 => ?_⟩
    have s_18 : Sm G17 (upd G17 q2 (.tup [.int 8, .int 3])) := Sm.upd nq2
    have hq2 : (upd G17 q2 (.tup [.int 8, .int 3])) q2 = some (.tup [.int 8, .int 3]) := upd_same
    generalize upd G17 q2 (.tup [.int 8, .int 3]) = G18 at s_18 hq2 ⊢
    refine fun q3 nq3 => ?_
    have s_19 : Sm G18 (upd G18 q3 (.dK [])) := Sm.upd nq3
    have hq3 : (upd G18 q3 (.dK [])) q3 = some (.dK []) := upd_same
    generalize upd G18 q3 (.dK []) = G19 at s_19 hq3 ⊢
    refine ⟨(by show 1 ≤ sizeLine; decide), fun q4 nq4 => ?_⟩
    have s_20 : Sm G19 (upd G19 q4 (.lst [.non])) := Sm.upd nq4
    have hq4 : (upd G19 q4 (.lst [.non])) q4 = some (.lst [.non]) := upd_same
    generalize upd G19 q4 (.lst [.non]) = G20 at s_20 hq4 ⊢
    refine ⟨(by show 1 ≤ sizeLine; decide), fun q5 nq5 => ?_⟩
    have s_21 : Sm G20 (upd G20 q5 (.lst [.str "8"])) := Sm.upd nq5
    have hq5 : (upd G20 q5 (.lst [.str "8"])) q5 = some (.lst [.str "8"]) := upd_same
    generalize upd G20 q5 (.lst [.str "8"]) = G21 at s_21 hq5 ⊢
    refine ⟨(by show 1 ≤ sizeLine; decide), fun q6 nq6 => ?_⟩
    have s_22 : Sm G21 (upd G21 q6 (.lst [.bl true])) := Sm.upd nq6
    have hq6 : (upd G21 q6 (.lst [.bl true])) q6 = some (.lst [.bl true]) := upd_same
    generalize upd G21 q6 (.lst [.bl true]) = G22 at s_22 hq6 ⊢
    refine ⟨(by show 1 ≤ sizeLine; decide), fun q7 nq7 => ?_⟩
    have s_23 : Sm G22 (upd G22 q7 (.lst [.int 0])) := Sm.upd nq7
    have hq7 : (upd G22 q7 (.lst [.int 0])) q7 = some (.lst [.int 0]) := upd_same
    generalize upd G22 q7 (.lst [.int 0]) = G23 at s_23 hq7 ⊢
    refine ⟨(by show 2 ≤ sizeLine; decide), fun q8 nq8 => ?_⟩
    have s_24 : Sm G23 (upd G23 q8 (.lst [.int 8, .int 0])) := Sm.upd nq8
    have hq8 : (upd G23 q8 (.lst [.int 8, .int 0])) q8 = some (.lst [.int 8, .int 0]) := upd_same
    generalize upd G23 q8 (.lst [.int 8, .int 0]) = G24 at s_24 hq8 ⊢
    refine ⟨1, rfl, (by show 1 ≤ sizeLine; decide), fun q9 nq9 => ?_⟩
    have s_25 : Sm G24 (upd G24 q9 (.lst [.int (-1)])) := Sm.upd nq9
    have hq9 : (upd G24 q9 (.lst [.int (-1)])) q9 = some (.lst [.int (-1)]) := upd_same
    generalize upd G24 q9 (.lst [.int (-1)]) = G25 at s_25 hq9 ⊢
    refine ⟨1, rfl, _, rfl, _, _, rfl, rfl, (by show 2 ≤ sizeLine; decide), fun q10 nq10 => ?_⟩
    have s_26 : Sm G25 (upd G25 q10 (.lst [.int 8, .int (-1 - far)])) := Sm.upd nq10
    have hq10 : (upd G25 q10 (.lst [.int 8, .int (-1 - far)])) q10 = some (.lst [.int 8, .int (-1 - far)]) := upd_same
    generalize upd G25 q10 (.lst [.int 8, .int (-1 - far)]) = G26 at s_26 hq10 ⊢
    refine ⟨(by show 1 ≤ sizeLine; decide), fun q11 nq11 => ?_⟩
    have s_27 : Sm G26 (upd G26 q11 (.lst [.int 4])) := Sm.upd nq11
    have hq11 : (upd G26 q11 (.lst [.int 4])) q11 = some (.lst [.int 4]) := upd_same
    generalize upd G26 q11 (.lst [.int 4]) = G27 at s_27 hq11 ⊢
    refine ⟨(by show 1 ≤ sizeLine; decide), fun q12 nq12 => ?_⟩
    have s_28 : Sm G27 (upd G27 q12 (.lst [.int 7])) := Sm.upd nq12
    have hq12 : (upd G27 q12 (.lst [.int 7])) q12 = some (.lst [.int 7]) := upd_same
    generalize upd G27 q12 (.lst [.int 7]) = G28 at s_28 hq12 ⊢
    refine ⟨(by show 15 ≤ sizeLine; decide), fun B1 nB1 => ?_⟩
    have s_29 : Sm G28 (upd G28 B1 (.lst [.non, .ref q1, .ref q2, .str "8", .ref q3, .int 5, .ref q4, .ref q5, .ref q6, .ref q7, .ref q8, .ref q9, .ref q10, .ref q11, .ref q12])) := Sm.upd nB1
    have hB1 : (upd G28 B1 (.lst [.non, .ref q1, .ref q2, .str "8", .ref q3, .int 5, .ref q4, .ref q5, .ref q6, .ref q7, .ref q8, .ref q9, .ref q10, .ref q11, .ref q12])) B1 = some (.lst [.non, .ref q1, .ref q2, .str "8", .ref q3, .int 5, .ref q4, .ref q5, .ref q6, .ref q7, .ref q8, .ref q9, .ref q10, .ref q11, .ref q12]) := upd_same
    generalize upd G28 B1 (.lst [.non, .ref q1, .ref q2, .str "8", .ref q3, .int 5, .ref q4, .ref q5, .ref q6, .ref q7, .ref q8, .ref q9, .ref q10, .ref q11, .ref q12]) = G29 at s_29 hB1 ⊢
    refine ⟨_, rfl, ?_⟩
    refine ⟨(by show 2 ≤ sizeLine; decide), fun r0 nr0 => ?_⟩
    have s_30 : Sm G29 (upd G29 r0 (.lst [.int 8, .int 4])) := Sm.upd nr0
    have hr0 : (upd G29 r0 (.lst [.int 8, .int 4])) r0 = some (.lst [.int 8, .int 4]) := upd_same
    generalize upd G29 r0 (.lst [.int 8, .int 4]) = G30 at s_30 hr0 ⊢
    refine ⟨(by show 2 ≤ sizeLine; decide), fun r1 nr1 => ?_⟩
    have s_31 : Sm G30 (upd G30 r1 (.lst [.int 5, .int 8])) := Sm.upd nr1
    have hr1 : (upd G30 r1 (.lst [.int 5, .int 8])) r1 = some (.lst [.int 5, .int 8]) := upd_same
    generalize upd G30 r1 (.lst [.int 5, .int 8]) = G31 at s_31 hr1 ⊢
    refine ⟨(by show 2 ≤ sizeLine; decide), fun r2 nr2 => ?_⟩
    have s_32 : Sm G31 (upd G31 r2 (.lst [.int 8, .int 5])) := Sm.upd nr2
    have hr2 : (upd G31 r2 (.lst [.int 8, .int 5])) r2 = some (.lst [.int 8, .int 5]) := upd_same
    generalize upd G31 r2 (.lst [.int 8, .int 5]) = G32 at s_32 hr2 ⊢
    refine ⟨(by show 2 ≤ sizeLine; decide), fun r3 nr3 => ?_⟩
    have s_33 : Sm G32 (upd G32 r3 (.lst [.int 8, .int 8])) := Sm.upd nr3
    have hr3 : (upd G32 r3 (.lst [.int 8, .int 8])) r3 = some (.lst [.int 8, .int 8]) := upd_same
    generalize upd G32 r3 (.lst [.int 8, .int 8]) = G33 at s_33 hr3 ⊢
    refine ⟨(by show 2 ≤ sizeLine; decide), fun r4 nr4 => ?_⟩
    have s_34 : Sm G33 (upd G33 r4 (.lst [.int 3, .int 2])) := Sm.upd nr4
    have hr4 : (upd G33 r4 (.lst [.int 3, .int 2])) r4 = some (.lst [.int 3, .int 2]) := upd_same
    generalize upd G33 r4 (.lst [.int 3, .int 2]) = G34 at s_34 hr4 ⊢
    refine ⟨(by show 2 ≤ sizeLine; decide), fun r5 nr5 => ?_⟩
    have s_35 : Sm G34 (upd G34 r5 (.lst [.int 2, .int 1])) := Sm.upd nr5
    have hr5 : (upd G34 r5 (.lst [.int 2, .int 1])) r5 = some (.lst [.int 2, .int 1]) := upd_same
    generalize upd G34 r5 (.lst [.int 2, .int 1]) = G35 at s_35 hr5 ⊢
    refine ⟨(by show 3 ≤ sizeLine; decide), fun r6 nr6 => ?_⟩
    have s_36 : Sm G35 (upd G35 r6 (.lst [.int 13, .int 5, .int 3])) := Sm.upd nr6
    have hr6 : (upd G35 r6 (.lst [.int 13, .int 5, .int 3])) r6 = some (.lst [.int 13, .int 5, .int 3]) := upd_same
    generalize upd G35 r6 (.lst [.int 13, .int 5, .int 3]) = G36 at s_36 hr6 ⊢
    refine ⟨(by show 3 ≤ sizeLine; decide), fun r7 nr7 => ?_⟩
    have s_37 : Sm G36 (upd G36 r7 (.lst [.int 8, .int 3, .bl false])) := Sm.upd nr7
    have hr7 : (upd G36 r7 (.lst [.int 8, .int 3, .bl false])) r7 = some (.lst [.int 8, .int 3, .bl false]) := upd_same
    generalize upd G36 r7 (.lst [.int 8, .int 3, .bl false]) = G37 at s_37 hr7 ⊢
    refine ⟨(by show 2 ≤ sizeLine; decide), fun r8 nr8 => ?_⟩
    have s_38 : Sm G37 (upd G37 r8 (.lst [.int 6, .int 1])) := Sm.upd nr8
    have hr8 : (upd G37 r8 (.lst [.int 6, .int 1])) r8 = some (.lst [.int 6, .int 1]) := upd_same
    generalize upd G37 r8 (.lst [.int 6, .int 1]) = G38 at s_38 hr8 ⊢
    refine ⟨10, 40, rfl, rfl, (by show (0 : Int) ≤ 40 ∧ (40 : Int) ≤ 1000000 ∧ (10 : Int).natAbs < 2 ^ 64; decide), (by show 2 ≤ sizeLine; decide), fun r9 nr9 => ?_⟩
    have s_39 : Sm G38 (upd G38 r9 (.lst [.int ((10 : Int) ^ (40 : Int).toNat), .int 1])) := Sm.upd nr9
    have hr9 : (upd G38 r9 (.lst [.int ((10 : Int) ^ (40 : Int).toNat), .int 1])) r9 = some (.lst [.int ((10 : Int) ^ (40 : Int).toNat), .int 1]) := upd_same
    generalize upd G38 r9 (.lst [.int ((10 : Int) ^ (40 : Int).toNat), .int 1]) = G39 at s_39 hr9 ⊢
    refine ⟨(by show 10 ≤ sizeLine; decide), fun B2 nB2 => ?_⟩
    have s_40 : Sm G39 (upd G39 B2 (.lst [.ref r0, .ref r1, .ref r2, .ref r3, .ref r4, .ref r5, .ref r6, .ref r7, .ref r8, .ref r9])) := Sm.upd nB2
    have hB2 : (upd G39 B2 (.lst [.ref r0, .ref r1, .ref r2, .ref r3, .ref r4, .ref r5, .ref r6, .ref r7, .ref r8, .ref r9])) B2 = some (.lst [.ref r0, .ref r1, .ref r2, .ref r3, .ref r4, .ref r5, .ref r6, .ref r7, .ref r8, .ref r9]) := upd_same
    generalize upd G39 B2 (.lst [.ref r0, .ref r1, .ref r2, .ref r3, .ref r4, .ref r5, .ref r6, .ref r7, .ref r8, .ref r9]) = G40 at s_40 hB2 ⊢
    have c_17 := c_16.trans s_17
    have c_18 := c_17.trans s_18
    have c_19 := c_18.trans s_19
    have c_20 := c_19.trans s_20
    have c_21 := c_20.trans s_21
    have c_22 := c_21.trans s_22
    have c_23 := c_22.trans s_23
    have c_24 := c_23.trans s_24
    have c_25 := c_24.trans s_25
    have c_26 := c_25.trans s_26
    have c_27 := c_26.trans s_27
    have c_28 := c_27.trans s_28
    have c_29 := c_28.trans s_29
    have c_30 := c_29.trans s_30
    have c_31 := c_30.trans s_31
    have c_32 := c_31.trans s_32
    have c_33 := c_32.trans s_33
    have c_34 := c_33.trans s_34
    have c_35 := c_34.trans s_35
    have c_36 := c_35.trans s_36
    have c_37 := c_36.trans s_37
    have c_38 := c_37.trans s_38
    have c_39 := c_38.trans s_39
    have c_40 := c_39.trans s_40
    have e40_40 : Sm G40 G40 := Sm.refl _
    have e40_39 : Sm G39 G40 := s_40.trans e40_40
    have e40_38 : Sm G38 G40 := s_39.trans e40_39
    have e40_37 : Sm G37 G40 := s_38.trans e40_38
    have e40_36 : Sm G36 G40 := s_37.trans e40_37
    have e40_35 : Sm G35 G40 := s_36.trans e40_36
    have e40_34 : Sm G34 G40 := s_35.trans e40_35
    have e40_33 : Sm G33 G40 := s_34.trans e40_34
    have e40_32 : Sm G32 G40 := s_33.trans e40_33
    have e40_31 : Sm G31 G40 := s_32.trans e40_32
    have e40_30 : Sm G30 G40 := s_31.trans e40_31
    have e40_29 : Sm G29 G40 := s_30.trans e40_30
    refine ⟨B1, B2, _, _, rfl, rfl, e40_29.lst hB1, hB2, (by show 15 + 10 ≤ sizeLine; decide), fun B3 nB3 => ?_⟩
    have s_41 : Sm G40 (upd G40 B3 (.lst ([.non, .ref q1, .ref q2, .str "8", .ref q3, .int 5, .ref q4, .ref q5, .ref q6, .ref q7, .ref q8, .ref q9, .ref q10, .ref q11, .ref q12] ++ [.ref r0, .ref r1, .ref r2, .ref r3, .ref r4, .ref r5, .ref r6, .ref r7, .ref r8, .ref r9]))) := Sm.upd nB3
    have hB3 : (upd G40 B3 (.lst ([.non, .ref q1, .ref q2, .str "8", .ref q3, .int 5, .ref q4, .ref q5, .ref q6, .ref q7, .ref q8, .ref q9, .ref q10, .ref q11, .ref q12] ++ [.ref r0, .ref r1, .ref r2, .ref r3, .ref r4, .ref r5, .ref r6, .ref r7, .ref r8, .ref r9]))) B3 = some (.lst ([.non, .ref q1, .ref q2, .str "8", .ref q3, .int 5, .ref q4, .ref q5, .ref q6, .ref q7, .ref q8, .ref q9, .ref q10, .ref q11, .ref q12] ++ [.ref r0, .ref r1, .ref r2, .ref r3, .ref r4, .ref r5, .ref r6, .ref r7, .ref r8, .ref r9])) := upd_same
    generalize upd G40 B3 (.lst ([.non, .ref q1, .ref q2, .str "8", .ref q3, .int 5, .ref q4, .ref q5, .ref q6, .ref q7, .ref q8, .ref q9, .ref q10, .ref q11, .ref q12] ++ [.ref r0, .ref r1, .ref r2, .ref r3, .ref r4, .ref r5, .ref r6, .ref r7, .ref r8, .ref r9])) = G41 at s_41 hB3 ⊢
    refine ⟨_, rfl, ?_⟩
    refine ⟨(by show 1 ≤ sizeLine; decide), fun u1 nu1 => ?_⟩
    have s_42 : Sm G41 (upd G41 u1 (.lst [.int 8])) := Sm.upd nu1
    have hu1 : (upd G41 u1 (.lst [.int 8])) u1 = some (.lst [.int 8]) := upd_same
    generalize upd G41 u1 (.lst [.int 8]) = G42 at s_42 hu1 ⊢
    refine ⟨(by show 1 ≤ sizeLine; decide), fun u2 nu2 => ?_⟩
    have s_43 : Sm G42 (upd G42 u2 (.lst [.ref u1])) := Sm.upd nu2
    have hu2 : (upd G42 u2 (.lst [.ref u1])) u2 = some (.lst [.ref u1]) := upd_same
    generalize upd G42 u2 (.lst [.ref u1]) = G43 at s_43 hu2 ⊢
    refine ⟨(by show 3 ≤ sizeLine; decide), fun u3 nu3 => ?_⟩
    have s_44 : Sm G43 (upd G43 u3 (.lst [.int 8, .int 2, .int 2])) := Sm.upd nu3
    have hu3 : (upd G43 u3 (.lst [.int 8, .int 2, .int 2])) u3 = some (.lst [.int 8, .int 2, .int 2]) := upd_same
    generalize upd G43 u3 (.lst [.int 8, .int 2, .int 2]) = G44 at s_44 hu3 ⊢
    refine ⟨(by show 2 ≤ sizeLine; decide), fun B4 nB4 => ?_⟩
    have s_45 : Sm G44 (upd G44 B4 (.lst [.ref u2, .ref u3])) := Sm.upd nB4
    have hB4 : (upd G44 B4 (.lst [.ref u2, .ref u3])) B4 = some (.lst [.ref u2, .ref u3]) := upd_same
    generalize upd G44 B4 (.lst [.ref u2, .ref u3]) = G45 at s_45 hB4 ⊢
    have e45_45 : Sm G45 G45 := Sm.refl _
    have e45_44 : Sm G44 G45 := s_45.trans e45_45
    have e45_43 : Sm G43 G45 := s_44.trans e45_44
    have e45_42 : Sm G42 G45 := s_43.trans e45_43
    have e45_41 : Sm G41 G45 := s_42.trans e45_42
    refine ⟨B3, B4, _, _, rfl, rfl, e45_41.lst hB3, hB4, (by show 25 + 2 ≤ sizeLine; decide), fun B5 nB5 => ?_⟩
    have s_46 : Sm G45 (upd G45 B5 (.lst (([.non, .ref q1, .ref q2, .str "8", .ref q3, .int 5, .ref q4, .ref q5, .ref q6, .ref q7, .ref q8, .ref q9, .ref q10, .ref q11, .ref q12] ++ [.ref r0, .ref r1, .ref r2, .ref r3, .ref r4, .ref r5, .ref r6, .ref r7, .ref r8, .ref r9]) ++ [.ref u2, .ref u3]))) := Sm.upd nB5
    have hB5 : (upd G45 B5 (.lst (([.non, .ref q1, .ref q2, .str "8", .ref q3, .int 5, .ref q4, .ref q5, .ref q6, .ref q7, .ref q8, .ref q9, .ref q10, .ref q11, .ref q12] ++ [.ref r0, .ref r1, .ref r2, .ref r3, .ref r4, .ref r5, .ref r6, .ref r7, .ref r8, .ref r9]) ++ [.ref u2, .ref u3]))) B5 = some (.lst (([.non, .ref q1, .ref q2, .str "8", .ref q3, .int 5, .ref q4, .ref q5, .ref q6, .ref q7, .ref q8, .ref q9, .ref q10, .ref q11, .ref q12] ++ [.ref r0, .ref r1, .ref r2, .ref r3, .ref r4, .ref r5, .ref r6, .ref r7, .ref r8, .ref r9]) ++ [.ref u2, .ref u3])) := upd_same
    generalize upd G45 B5 (.lst (([.non, .ref q1, .ref q2, .str "8", .ref q3, .int 5, .ref q4, .ref q5, .ref q6, .ref q7, .ref q8, .ref q9, .ref q10, .ref q11, .ref q12] ++ [.ref r0, .ref r1, .ref r2, .ref r3, .ref r4, .ref r5, .ref r6, .ref r7, .ref r8, .ref r9]) ++ [.ref u2, .ref u3])) = G46 at s_46 hB5 ⊢
    have e46_46 : Sm G46 G46 := Sm.refl _
    have e46_45 : Sm G45 G46 := s_46.trans e46_46
    have e46_44 : Sm G44 G46 := s_45.trans e46_45
    have e46_43 : Sm G43 G46 := s_44.trans e46_44
    have e46_42 : Sm G42 G46 := s_43.trans e46_43
    have e46_41 : Sm G41 G46 := s_42.trans e46_42
    have e46_40 : Sm G40 G46 := s_41.trans e46_41
    have e46_39 : Sm G39 G46 := s_40.trans e46_40
    have e46_38 : Sm G38 G46 := s_39.trans e46_39
    have e46_37 : Sm G37 G46 := s_38.trans e46_38
    have e46_36 : Sm G36 G46 := s_37.trans e46_37
    have e46_35 : Sm G35 G46 := s_36.trans e46_36
    have e46_34 : Sm G34 G46 := s_35.trans e46_35
    have e46_33 : Sm G33 G46 := s_34.trans e46_34
    have e46_32 : Sm G32 G46 := s_33.trans e46_33
    have e46_31 : Sm G31 G46 := s_32.trans e46_32
    have e46_30 : Sm G30 G46 := s_31.trans e46_31
    have e46_29 : Sm G29 G46 := s_30.trans e46_30
    have e46_28 : Sm G28 G46 := s_29.trans e46_29
    have e46_27 : Sm G27 G46 := s_28.trans e46_28
    have e46_26 : Sm G26 G46 := s_27.trans e46_27
    have e46_25 : Sm G25 G46 := s_26.trans e46_26
    have e46_24 : Sm G24 G46 := s_25.trans e46_25
    have e46_23 : Sm G23 G46 := s_24.trans e46_24
    have e46_22 : Sm G22 G46 := s_23.trans e46_23
    have e46_21 : Sm G21 G46 := s_22.trans e46_22
    have e46_20 : Sm G20 G46 := s_21.trans e46_21
    have e46_19 : Sm G19 G46 := s_20.trans e46_20
    have e46_18 : Sm G18 G46 := s_19.trans e46_19
    have e46_17 : Sm G17 G46 := s_18.trans e46_18
    have hBad : ∀ t ∈ (([.non, .ref q1, .ref q2, .str "8", .ref q3, .int 5, .ref q4, .ref q5, .ref q6, .ref q7, .ref q8, .ref q9, .ref q10, .ref q11, .ref q12] ++ [.ref r0, .ref r1, .ref r2, .ref r3, .ref r4, .ref r5, .ref r6, .ref r7, .ref r8, .ref r9]) ++ [.ref u2, .ref u3] : List V), BadParts K G46 2 t := fun t ht => by
      simp only [List.cons_append, List.nil_append, List.mem_cons, List.not_mem_nil, or_false] at ht
      rcases ht with rfl | rfl | rfl | rfl | rfl | rfl | rfl | rfl | rfl | rfl | rfl | rfl | rfl | rfl | rfl | rfl | rfl | rfl | rfl | rfl | rfl | rfl | rfl | rfl | rfl | rfl | rfl
      · exact bad_not .non (by decide)
      · exact e46_17.bad (bad_not (.tup (SqT.of hq1)) (by decide))
      · exact e46_18.bad (bad_not (.tup (SqT.of hq2)) (by decide))
      · exact bad_not (.str _) (by decide)
      · exact e46_19.bad (bad_not (.dK hq3) (by decide))
      · exact bad_not (.int _) (by decide)
      · exact e46_20.bad (bad_1 hq4 (who_no .non (by decide)))
      · exact e46_21.bad (bad_1 hq5 (who_no (.str _) (by decide)))
      · exact e46_22.bad (bad_1 hq6 (who_no (.bl _) (by decide)))
      · exact e46_23.bad (bad_1 hq7 (who_low (by decide)))
      · exact e46_24.bad (bad_2 hq8 who_int (who_low (by decide)))
      · exact e46_25.bad (bad_1 hq9 (who_low (by decide)))
      · exact e46_26.bad (bad_2 hq10 who_int (who_low (by omega)))
      · exact e46_27.bad (bad_n2 [4] hq11 (by decide +kernel))
      · exact e46_28.bad (bad_n2 [7] hq12 (by decide +kernel))
      · exact e46_30.bad (bad_n2 [8, 4] hr0 (by decide +kernel))
      · exact e46_31.bad (bad_n2 [5, 8] hr1 (by decide +kernel))
      · exact e46_32.bad (bad_n2 [8, 5] hr2 (by decide +kernel))
      · exact e46_33.bad (bad_n2 [8, 8] hr3 (by decide +kernel))
      · exact e46_34.bad (bad_n2 [3, 2] hr4 (by decide +kernel))
      · exact e46_35.bad (bad_n2 [2, 1] hr5 (by decide +kernel))
      · exact e46_36.bad (bad_n2 [13, 5, 3] hr6 (by decide +kernel))
      · exact e46_37.bad (bad_3 hr7 who_int who_int (who_no (.bl _) (by decide)))
      · exact e46_38.bad (bad_n2 [6, 1] hr8 (by decide +kernel))
      · exact e46_39.bad (bad_ns [10 ^ 40, 1] hr9 (by decide +kernel) (by decide +kernel) (by decide +kernel) big_bad)
      · exact e46_43.bad (bad_1 hu2 (who_no (.lst (SqL.of (s_43.lst hu1))) (by decide)))
      · exact e46_44.bad (bad_n2 [8, 2, 2] hu3 (by decide +kernel))
    have hlB : (([.non, .ref q1, .ref q2, .str "8", .ref q3, .int 5, .ref q4, .ref q5, .ref q6, .ref q7, .ref q8, .ref q9, .ref q10, .ref q11, .ref q12] ++ [.ref r0, .ref r1, .ref r2, .ref r3, .ref r4, .ref r5, .ref r6, .ref r7, .ref r8, .ref r9]) ++ [.ref u2, .ref u3] : List V).length = 27 := rfl
    generalize (([.non, .ref q1, .ref q2, .str "8", .ref q3, .int 5, .ref q4, .ref q5, .ref q6, .ref q7, .ref q8, .ref q9, .ref q10, .ref q11, .ref q12] ++ [.ref r0, .ref r1, .ref r2, .ref r3, .ref r4, .ref r5, .ref r6, .ref r7, .ref r8, .ref r9]) ++ [.ref u2, .ref u3] : List V) = BV at hB5 hBad hlB
    have c_41 := c_40.trans s_41
    have c_42 := c_41.trans s_42
    have c_43 := c_42.trans s_43
    have c_44 := c_43.trans s_44
    have c_45 := c_44.trans s_45
    have c_46 := c_45.trans s_46
    refine ⟨(by show 1 ≤ sizeLine; decide), fun v1 nv1 => ?_⟩
    have s_47 : Sm G46 (upd G46 v1 (.lst [.int 2])) := Sm.upd nv1
    have hv1 : (upd G46 v1 (.lst [.int 2])) v1 = some (.lst [.int 2]) := upd_same
    generalize upd G46 v1 (.lst [.int 2]) = G47 at s_47 hv1 ⊢
    have c_47 := c_46.trans s_47
    refine ⟨_, rfl, ?_⟩
    have rS : ∀ d ∈ ([2] : List Int).map V.int, ∀ t ∈ BV, ∀ Hx, Sm G47 Hx → Refuses D (spWithSum K D T) 4 d t Hx := fun d hd t ht Hx sx => by
      obtain ⟨y, hy, rfl⟩ := zmem hd
      simp only [List.mem_cons, List.not_mem_nil, or_false] at hy
      subst hy
      exact ref_sum (by decide) (by decide) ((s_47.trans sx).bad (hBad t ht)) ((c_47.trans sx).tab hT1)
    refine ⟨_, rfl, du, _, _, _, rfl, rfl, SqL.of (c_47.lst hdu), at_of (j := 4) (by omega) rfl, ?_⟩
    refine ⟨f_l_with_sum, _, 4, v1, B5, d4, _, _, rfl, A_l_with_sum, by decide, SqL.of hv1, SqL.of (s_47.lst hB5), SqL.of (c_47.lst hd4), (by rw [hlB]; decide), fun d hd t ht Hx sx => rS d hd t ht Hx sx, fun G48 s_48 => ⟨_, rfl, iteF ?_⟩⟩
    have c_48 := c_47.trans s_48
    refine ⟨(by show 1 ≤ sizeLine; decide), fun w1 nw1 => ?_⟩
    have s_49 : Sm G48 (upd G48 w1 (.lst [.int 30])) := Sm.upd nw1
    have hw1 : (upd G48 w1 (.lst [.int 30])) w1 = some (.lst [.int 30]) := upd_same
    generalize upd G48 w1 (.lst [.int 30]) = G49 at s_49 hw1 ⊢
    refine ⟨(by show 2 ≤ sizeLine; decide), fun w2 nw2 => ?_⟩
    have s_50 : Sm G49 (upd G49 w2 (.lst [.int 30, .int 1])) := Sm.upd nw2
    have hw2 : (upd G49 w2 (.lst [.int 30, .int 1])) w2 = some (.lst [.int 30, .int 1]) := upd_same
    generalize upd G49 w2 (.lst [.int 30, .int 1]) = G50 at s_50 hw2 ⊢
    refine ⟨(by show 2 ≤ sizeLine; decide), fun w3 nw3 => ?_⟩
    have s_51 : Sm G50 (upd G50 w3 (.lst [.int 2, .int 1])) := Sm.upd nw3
    have hw3 : (upd G50 w3 (.lst [.int 2, .int 1])) w3 = some (.lst [.int 2, .int 1]) := upd_same
    generalize upd G50 w3 (.lst [.int 2, .int 1]) = G51 at s_51 hw3 ⊢
    refine ⟨(by show 1 ≤ sizeLine; decide), fun w4 nw4 => ?_⟩
    have s_52 : Sm G51 (upd G51 w4 (.lst [.int 0])) := Sm.upd nw4
    have hw4 : (upd G51 w4 (.lst [.int 0])) w4 = some (.lst [.int 0]) := upd_same
    generalize upd G51 w4 (.lst [.int 0]) = G52 at s_52 hw4 ⊢
    refine ⟨(by show 1 ≤ sizeLine; decide), fun w5 nw5 => ?_⟩
    have s_53 : Sm G52 (upd G52 w5 (.lst [.int 32])) := Sm.upd nw5
    have hw5 : (upd G52 w5 (.lst [.int 32])) w5 = some (.lst [.int 32]) := upd_same
    generalize upd G52 w5 (.lst [.int 32]) = G53 at s_53 hw5 ⊢
    refine ⟨(by show 4 ≤ sizeLine; decide), fun w6 nw6 => ?_⟩
    have s_54 : Sm G53 (upd G53 w6 (.lst [.ref w2, .ref w3, .ref w4, .ref w5])) := Sm.upd nw6
    have hw6 : (upd G53 w6 (.lst [.ref w2, .ref w3, .ref w4, .ref w5])) w6 = some (.lst [.ref w2, .ref w3, .ref w4, .ref w5]) := upd_same
    generalize upd G53 w6 (.lst [.ref w2, .ref w3, .ref w4, .ref w5]) = G54 at s_54 hw6 ⊢
    have c_49 := c_48.trans s_49
    have c_50 := c_49.trans s_50
    have c_51 := c_50.trans s_51
    have c_52 := c_51.trans s_52
    have c_53 := c_52.trans s_53
    have c_54 := c_53.trans s_54
    have e54_54 : Sm G54 G54 := Sm.refl _
    have e54_53 : Sm G53 G54 := s_54.trans e54_54
    have e54_52 : Sm G52 G54 := s_53.trans e54_53
    have e54_51 : Sm G51 G54 := s_52.trans e54_52
    have e54_50 : Sm G50 G54 := s_51.trans e54_51
    have e54_49 : Sm G49 G54 := s_50.trans e54_50
    have r30 : ∀ d ∈ ([30] : List Int).map V.int, ∀ t ∈ ([.ref w2, .ref w3, .ref w4, .ref w5] : List V), ∀ Hx, Sm G54 Hx → Refuses D (spWithSum K D T) 4 d t Hx := fun d hd t ht Hx sx => by
      obtain ⟨y, hy, rfl⟩ := zmem hd
      simp only [List.mem_cons, List.not_mem_nil, or_false] at hy
      subst hy
      refine ref_sum (by decide) (by decide) (sx.bad ?_) ((c_54.trans sx).tab hT1)
      simp only [List.mem_cons, List.not_mem_nil, or_false] at ht
      rcases ht with rfl | rfl | rfl | rfl
      · exact e54_50.bad (bad_n30 [30, 1] hw2 (by decide +kernel))
      · exact e54_51.bad (bad_n30 [2, 1] hw3 (by decide +kernel))
      · exact e54_52.bad (bad_1 hw4 (who_low (by decide)))
      · exact e54_53.bad (bad_n30 [32] hw5 (by decide +kernel))
    refine ⟨_, rfl, du, _, _, _, rfl, rfl, SqL.of (c_54.lst hdu), at_of (j := 4) (by omega) rfl, ?_⟩
    refine ⟨f_l_with_sum, _, 4, w1, w6, d4, _, _, rfl, A_l_with_sum, by decide, SqL.of (e54_49.lst hw1), SqL.of hw6, SqL.of (c_54.lst hd4), (by show 4 ≤ 1000; decide), fun d hd t ht Hx sx => r30 d hd t ht Hx sx, fun G55 s_55 => ⟨_, rfl, iteF ?_⟩⟩
    have c_55 := c_54.trans s_55
    refine ⟨_, rfl, a, ns, 0, rfl, c_55.seq hS1, by decide, by decide, fun fv G56 f1 f30 sf => ?_⟩
    have s_56 : Sm G55 G56 := Sm.of sf
    have c_56 := c_55.trans s_56
    refine ⟨_, rfl, _, _, rfl, rfl, (by show 2 ≤ sizeLine; decide), fun y0 ny0 => ?_⟩
    have s_57 : Sm G56 (upd G56 y0 (.tup [.int (9 + far), .int (5)])) := Sm.upd ny0
    have hy0 : (upd G56 y0 (.tup [.int (9 + far), .int (5)])) y0 = some (.tup [.int (9 + far), .int (5)]) := upd_same
    generalize upd G56 y0 (.tup [.int (9 + far), .int (5)]) = G57 at s_57 hy0 ⊢
    refine ⟨_, rfl, _, _, rfl, rfl, (by show 2 ≤ sizeLine; decide), fun y1 ny1 => ?_⟩
    have s_58 : Sm G57 (upd G57 y1 (.tup [.int (5), .int (9 + far)])) := Sm.upd ny1
    have hy1 : (upd G57 y1 (.tup [.int (5), .int (9 + far)])) y1 = some (.tup [.int (5), .int (9 + far)]) := upd_same
    generalize upd G57 y1 (.tup [.int (5), .int (9 + far)]) = G58 at s_58 hy1 ⊢
    refine ⟨(by show 2 ≤ sizeLine; decide), fun y2 ny2 => ?_⟩
    have s_59 : Sm G58 (upd G58 y2 (.tup [.int (0), .int (3)])) := Sm.upd ny2
    have hy2 : (upd G58 y2 (.tup [.int (0), .int (3)])) y2 = some (.tup [.int (0), .int (3)]) := upd_same
    generalize upd G58 y2 (.tup [.int (0), .int (3)]) = G59 at s_59 hy2 ⊢
    refine ⟨(by show 2 ≤ sizeLine; decide), fun y3 ny3 => ?_⟩
    have s_60 : Sm G59 (upd G59 y3 (.tup [.int (3), .int (0)])) := Sm.upd ny3
    have hy3 : (upd G59 y3 (.tup [.int (3), .int (0)])) y3 = some (.tup [.int (3), .int (0)]) := upd_same
    generalize upd G59 y3 (.tup [.int (3), .int (0)]) = G60 at s_60 hy3 ⊢
    refine ⟨(by show 2 ≤ sizeLine; decide), fun y4 ny4 => ?_⟩
    have s_61 : Sm G60 (upd G60 y4 (.tup [.int (7), .int (7)])) := Sm.upd ny4
    have hy4 : (upd G60 y4 (.tup [.int (7), .int (7)])) y4 = some (.tup [.int (7), .int (7)]) := upd_same
    generalize upd G60 y4 (.tup [.int (7), .int (7)]) = G61 at s_61 hy4 ⊢
    refine ⟨(by show 5 ≤ sizeLine; decide), fun yt nyt => ?_⟩
    have s_62 : Sm G61 (upd G61 yt (.tup [.ref y0, .ref y1, .ref y2, .ref y3, .ref y4])) := Sm.upd nyt
    have hyt : (upd G61 yt (.tup [.ref y0, .ref y1, .ref y2, .ref y3, .ref y4])) yt = some (.tup [.ref y0, .ref y1, .ref y2, .ref y3, .ref y4]) := upd_same
    generalize upd G61 yt (.tup [.ref y0, .ref y1, .ref y2, .ref y3, .ref y4]) = G62 at s_62 hyt ⊢
    have c_57 := c_56.trans s_57
    have c_58 := c_57.trans s_58
    have c_59 := c_58.trans s_59
    have c_60 := c_59.trans s_60
    have c_61 := c_60.trans s_61
    have c_62 := c_61.trans s_62
    have e62_62 : Sm G62 G62 := Sm.refl _
    have e62_61 : Sm G61 G62 := s_62.trans e62_62
    have e62_60 : Sm G60 G62 := s_61.trans e62_61
    have e62_59 : Sm G59 G62 := s_60.trans e62_60
    have e62_58 : Sm G58 G62 := s_59.trans e62_59
    have e62_57 : Sm G57 G62 := s_58.trans e62_58
    have hY : ∀ x ∈ ([.ref y0, .ref y1, .ref y2, .ref y3, .ref y4] : List V), ∃ (tk : Addr) (h l : Int), x = .ref tk ∧ G62 tk = some (.tup [.int h, .int l]) ∧ 0 ≤ h ∧ 0 ≤ l := fun x hx => by
      simp only [List.mem_cons, List.not_mem_nil, or_false] at hx
      rcases hx with rfl | rfl | rfl | rfl | rfl
      · exact ⟨y0, _, _, rfl, e62_57.tup hy0, by omega, by omega⟩
      · exact ⟨y1, _, _, rfl, e62_58.tup hy1, by omega, by omega⟩
      · exact ⟨y2, _, _, rfl, e62_59.tup hy2, by omega, by omega⟩
      · exact ⟨y3, _, _, rfl, e62_60.tup hy3, by omega, by omega⟩
      · exact ⟨y4, _, _, rfl, e62_61.tup hy4, by omega, by omega⟩
    have cY := c_62
    refine ⟨yt, rfl, ⟨_, SqT.of hyt⟩, for_tup (xs := [.ref y0, .ref y1, .ref y2, .ref y3, .ref y4]) (fun i σ H' => ∃ v7 v8 v9 v10 v11 v12 : Option V, σ = [some (.ref a), some (.int far), some (.ref du), v3, some (.ref pS), some (.ref B5), some (.int fv), v7, v8, v9, v10, v11, v12] ∧ Sm G62 H') ⟨none, none, none, none, none, none, rfl, Sm.refl _⟩ (fun i σ H' _ ⟨_, _, _, _, _, _, _, sm⟩ => SqT.of (sm.tup hyt)) ?_ ?_⟩
    · rintro i x σ L0 hi ⟨v7, v8, v9, v10, v11, v12, rfl, sm0⟩
      obtain ⟨tk, h, l, rfl, hk, h0, l0⟩ := hY x (List.mem_of_getElem? hi)
      refine ⟨tk, _, rfl, SqT.of (sm0.tup hk), rfl, _, _, rfl, _, _, rfl, rfl, ?_⟩
      refine ⟨.int h, rfl, .int l, rfl, h, l, rfl, _, rfl, _, rfl, _, rfl, (by show 3 ≤ sizeLine; decide), fun pw npw => ?_⟩
      have z1 : Sm L0 (upd L0 pw (.tup [.int fv, .int h, .int l])) := Sm.upd npw
      have hpw : (upd L0 pw (.tup [.int fv, .int h, .int l])) pw = some (.tup [.int fv, .int h, .int l]) := upd_same
      generalize upd L0 pw (.tup [.int fv, .int h, .int l]) = L1 at z1 hpw ⊢
      have hm : ∃ m : Int, (if l < h then l else h) = m ∧ 0 ≤ m ∧ m ≤ h ∧ m ≤ l ∧ (m = h ∨ m = l) := by
        by_cases c : l < h
        · exact ⟨l, if_pos c, by omega, by omega, by omega, .inr rfl⟩
        · exact ⟨h, if_neg c, by omega, by omega, by omega, .inl rfl⟩
      obtain ⟨m, em, m0, mh, ml, mhl⟩ := hm
      rw [em]
      refine ⟨_, _, rfl, ?_⟩
      refine ⟨_, rfl, _, rfl, _, _, rfl, rfl, _, rfl, _, _, rfl, rfl, _, rfl, _, _, rfl, rfl, (by show 3 ≤ sizeLine; decide), fun pn npn => ?_⟩
      have z2 : Sm L1 (upd L1 pn (.lst [.int 0, .int (m + 1), .int (m + 1 + far)])) := Sm.upd npn
      have hpn : (upd L1 pn (.lst [.int 0, .int (m + 1), .int (m + 1 + far)])) pn = some (.lst [.int 0, .int (m + 1), .int (m + 1 + far)]) := upd_same
      generalize upd L1 pn (.lst [.int 0, .int (m + 1), .int (m + 1 + far)]) = L2_ at z2 hpn ⊢
      have a2 := cY.trans (sm0.trans (z1.trans z2))
      refine ⟨pS, pn, _, _, rfl, rfl, a2.lst hpS, hpn, (by rw [hlS]; show 9 + 3 ≤ sizeLine; decide), fun pc npc => ?_⟩
      have z3 : Sm L2_ (upd L2_ pc (.lst (SV ++ [.int 0, .int (m + 1), .int (m + 1 + far)]))) := Sm.upd npc
      have hpc : (upd L2_ pc (.lst (SV ++ [.int 0, .int (m + 1), .int (m + 1 + far)]))) pc = some (.lst (SV ++ [.int 0, .int (m + 1), .int (m + 1 + far)])) := upd_same
      generalize upd L2_ pc (.lst (SV ++ [.int 0, .int (m + 1), .int (m + 1 + far)])) = L3 at z3 hpc ⊢
      have a3 := a2.trans z3
      have o3 := sm0.trans (z1.trans (z2.trans z3))
      have hw3 := (z2.trans z3).tup hpw
      have rT : ∀ t ∈ SV ++ ([0, m + 1, m + 1 + far] : List Int).map V.int, ∀ Hx, Sm L3 Hx → Refuses D (spWithTaking K D) 5 (.ref pw) t Hx := fun t ht Hx sx => by
        refine ref_taking (SqT.of (sx.tup hw3)) f1 f30 h0 l0 ?_
        rcases List.mem_append.mp ht with ht | ht
        · exact Odd.tak ((a3.trans sx).odd (hOdd t ht))
        · obtain ⟨z, hz, rfl⟩ := zmem ht
          simp only [List.mem_cons, List.not_mem_nil, or_false] at hz
          exact tak_out (by omega)
      refine ⟨pc, rfl, ⟨_, SqL.of hpc⟩, for_list (xs := SV ++ [.int 0, .int (m + 1), .int (m + 1 + far)]) (fun i σ H' => ∃ v11 : Option V, σ = [some (.ref a), some (.int far), some (.ref du), v3, some (.ref pS), some (.ref B5), some (.int fv), some (.int h), some (.int l), some (.int m), some (.ref pw), v11, v12] ∧ Sm L3 H') ⟨_, rfl, Sm.refl _⟩ (fun i σ H' _ ⟨_, _, sm⟩ => SqL.of (sm.lst hpc)) ?_ ?_⟩
      · rintro i t σ N0 hi ⟨v11, rfl, sn0⟩
        have ht := List.mem_of_getElem? hi
        refine ⟨_, rfl, t, rfl, f_l_with_taking, _, 5, .ref pw, t, rfl, A_l_with_taking, by decide, rT t ht N0 sn0, fun r N1 sn1 nr hr1 => ?_⟩
        have a4 := a3.trans (sn0.trans sn1)
        refine ⟨_, rfl, du, _, _, _, rfl, rfl, SqL.of (a4.lst hdu), at_of (j := 5) (by omega) rfl, ?_⟩
        exact ⟨r, d5, _, rfl, rfl, SqL.of hr1, SqL.of (a4.lst hd5), _, rfl, iteF ⟨_, rfl, sn0.trans sn1⟩⟩
      rintro σ N0 ⟨v11, rfl, sn0⟩
      refine ⟨_, rfl, _, rfl, _, _, rfl, rfl, _, rfl, _, rfl, _, _, rfl, rfl, .inl (f_small f1 f30), (by show 2 ≤ sizeLine; decide), fun pa npa => ?_⟩
      have z4 : Sm N0 (upd N0 pa (.tup [.int (h - m), .int (fv * m)])) := Sm.upd npa
      have hpa : (upd N0 pa (.tup [.int (h - m), .int (fv * m)])) pa = some (.tup [.int (h - m), .int (fv * m)]) := upd_same
      generalize upd N0 pa (.tup [.int (h - m), .int (fv * m)]) = N1 at z4 hpa ⊢
      refine ⟨_, rfl, _, _, rfl, rfl, _, rfl, ?_⟩
      have o5 := o3.trans (sn0.trans z4)
      refine ite2 (fun c => ?_) (fun c => ⟨_, _, _, _, _, _, rfl, o5⟩)
      have c' : 0 < m := of_decide_eq_true c
      refine ⟨_, rfl, _, rfl, _, rfl, _, rfl, .int fv, .int h, .int l, .int m, true, true, true, rfl, fac_yes f1 f30, who_yes h0, who_yes l0, fun z => ntf z, fun _ z => ntf z, fun _ _ z => ntf z, fun _ _ _ => ⟨fv, h, l, true, rfl, rfl, rfl, f1, f30, tak_yes (by omega) mh ml, fun z => ntf z, fun _ => ⟨m, rfl, fun pb npb => ?_⟩⟩⟩
      have z5 : Sm N1 (upd N1 pb (.tup [.int (h - m), .int (fv * m)])) := Sm.upd npb
      refine ⟨_, rfl, pb, pa, [h - m, fv * m], [h - m, fv * m], rfl, rfl, SqT.of upd_same, SqT.of (z5.tup hpa), _, rfl, ?_⟩
      rw [decide_eq_true rfl]
      exact iteF ⟨_, _, _, _, _, _, rfl, o5.trans z5⟩
    rintro σ M0 ⟨v7, v8, v9, v10, v11, v12, rfl, sm0⟩
    have hM : GxR.TabG M0 T := (cY.trans sm0).tab hT1
    refine ⟨(by show 2 ≤ sizeLine; decide), fun pl npl => ?_⟩
    have y1 : Sm M0 (upd M0 pl (.lst [.int 31, .int 1])) := Sm.upd npl
    have hpl : (upd M0 pl (.lst [.int 31, .int 1])) pl = some (.lst [.int 31, .int 1]) := upd_same
    generalize upd M0 pl (.lst [.int 31, .int 1]) = M1 at y1 hpl ⊢
    have hpl2 : M1 pl = some (.lst (([31, 1] : List Int).map V.int)) := hpl
    have e31 : ([31, 1] : List Int) = parts 30 ([31, 1] : List Int).sum := by rw [thirty (by decide) (by decide)]; decide +kernel
    refine ⟨.int 30, .ref pl, true, rfl, fac_yes (by decide) (by decide), fun z => ntf z, fun _ => ⟨30, true, rfl, by decide, by decide, .inr ⟨pl, _, _, rfl, SqL.of hpl2, wl_len, wl_each, (wl_true (by decide)).symm⟩, y1.tab hM, fun z => ntf z, fun _ => ⟨pl, [31, 1], rfl, SqL.of hpl2, by decide, by decide +kernel, fun ne => absurd e31 ne, fun _ M2 y2 => ?_⟩⟩⟩
    refine ⟨rfl, _, rfl, ?_⟩
    rw [decide_eq_true (show V.int ([31, 1] : List Int).sum = V.int 32 from rfl)]
    refine iteT ⟨.int 1, .int 3000, true, true, rfl, fac_yes (by decide) (by decide), fac_yes (by decide) (by decide), fun z => ntf z, fun _ z => ntf z, fun _ _ => ⟨1, 3000, rfl, rfl, by decide, by decide, by decide, by decide, fun M3 y3 => ?_⟩⟩
    refine ⟨1, 3000, rfl, rfl, (by show (0 : Int) ≤ 3000 ∧ (3000 : Int) ≤ 1000000 ∧ (1 : Int).natAbs < 2 ^ 64; decide), rfl, _, rfl, ?_⟩
    have e3 : V.int (st 1 (3000 : Int).toNat) = V.int (1 * 2 ^ (3000 : Int).toNat) := by rw [st_one, Int.one_mul]
    rw [decide_eq_true e3]
    refine iteT ⟨.int 30, .int 0, true, true, rfl, fac_yes (by decide) (by decide), fac_yes (by decide) (by decide), fun z => ntf z, fun _ z => ntf z, fun _ _ => ⟨30, 0, rfl, rfl, by decide, by decide, by decide, by decide, fun M4 y4 => ?_⟩⟩
    refine ⟨rfl, ?_⟩
    rw [decide_eq_true (show V.int (st 30 (0 : Int).toNat) = V.int 1 from rfl)]
    exact q M4
end
end TA
set_option Elab.async false
set_option linter.all false
set_option maxRecDepth 100000
set_option maxHeartbeats 4000000
namespace TA
open PySem PySem.Spec PyProof.Rows L2
/-! ### the end of a law row where a def nm of the top holds a generator expression -/
theorem walk_ofWL {l : PySem.W.OpenLaw} {n k : Nat} {q : Program} {loose : List Str} {XP : (Str → Option Value) → Heap → Prop} {YP : World → Heap → Prop} {d : DefRec} {K : Params → PySem.W.Frag} {CX : World → CXT} {x nm : Str}
    (hn : l.most = some n) (hn2 : n ≤ sizeLine) (hdf : d.params.defaults = []) (hr : Room k callerA) (hrec : ((recsOf q).any fun e => e.name == nm) = true) (hY : ∀ (w : World) (h : Heap), YP w h → (K w.params).In h)
    (F : ∀ (w : World) (mg : Str → Option Value) (fa : Addr) (h : Heap), YP w h → (K w.params).In h → h.Ns mainGlobals mg → mg d.name = some (.ref fa) → (∀ fb, mg nm = some (.ref fb) → LamX.OwnTab (K w.params) fb h) → LamX.LawAtS l w (K w.params) (CX w) k n x mg fa h)
    (hCX : ∀ (w : World) (H : Hp) (s : Shared) (e : Value) (s' : Shared), CX w [] H s (fun _ _ _ => False) e s' → False) :
    PySem.W.WalkO q loose XP YP l.row.toRowW d [] (fun f vs => PySem.call f vs) := by
  refine Att.attach_callB hn hdf fun w s₀ s₁ mg mb fa o pm cd doc a vs ns G Y ho hd hcd hmg hobj hints hlen hbits hg => ?_
  have KX := hY w _ Y
  have own : ∀ fb, mg nm = some (.ref fb) → LamX.OwnTab (K w.params) fb s₁.heap := fun fb hfb c P o1 fd1 e dd vs1 sl k1 k2 k3 k4 k5 => by
    obtain ⟨dL, hm, hn1⟩ := List.any_eq_true.mp hrec
    have hn2 : dL.name = nm := beq_iff_eq.mp hn1
    obtain ⟨a', o', fd', c', P', h1, h2, h3, h4, h5, h6⟩ := G.T.tab dL hm
    rw [hn2, hfb] at h1
    cases h1
    have g1 := KX _ _ k1
    rw [g1] at h2
    cases h2
    rw [k2] at h3
    cases h3
    rw [k3] at h4
    cases h4
    obtain ⟨⟨oc, vc, e1, _, e3, e4⟩, hP⟩ := h6
    have g2 := KX _ _ k4
    rw [g2] at e1
    cases e1
    cases e3
    rw [k5] at e4
    cases e4
    exact hP
  obtain ⟨fd, cs, sp, hT, nT, C, hb, hsp, hF⟩ := F w mg fa _ Y KX G.T.g hmg own
  exact LamX.law_callTs KX G.T.g G.T.b G.T.builtins G.T.nolimit hg hT nT C G.T.bmain hobj hints (Nat.le_trans hlen hn2) hr hF hb (fun H hH hS => hsp H a ns hlen hbits hH hS) fun H e s' => hCX w H s₁ e s'
theorem tabB_of {base : Heap} {mg : Str → Option Value} {c T : Addr} (h : LamX.TabB base mg c T) : GxR.TabB base mg c T := ⟨h.code, h.bm, h.gP⟩
theorem func_mk {K : PySem.W.Frag} {x qual : Str} {st : Stmt} {f c : Addr} {oc : Value} {od an : Option Addr} {osl : Array (Option Value)} {kV doc pm ct : Value} (l : K.lookup f = some ⟨oc, od, .func (PySem.W.fnOf x qual (defArgs st) (defBody st) (defScope st) .none kV doc pm an (.ref c) ct), osl⟩)
    (cc : PySem.W.codeIn K (.ref c) qual = true) (k : PySem.W.keepIn K (.ref f) = true) : FunC K x qual st f (PySem.W.fnOf x qual (defArgs st) (defBody st) (defScope st) .none kV doc pm an (.ref c) ct) c := ⟨⟨oc, od, kV, doc, pm, an, ct, osl, rfl, l, cc⟩, k⟩
theorem tab0 {H : Hp} {T : Addr} (h : H T = some (.tbl #[])) : GxR.TabG H T := ⟨#[], h, trivial⟩
end TA
set_option Elab.async false
set_option linter.all false
set_option maxRecDepth 100000
set_option maxHeartbeats 4000000
namespace TA
open PySem PySem.Spec PyProof.Rows L2
/-! ### what the top has left -/
def dAt (a b c d e f : Addr) : Nat → Addr
  | 0 => a
  | 1 => b
  | 2 => c
  | 3 => d
  | 4 => e
  | _ => f
theorem six_at {p : Nat → Prop} (h0 : p 0) (h1 : p 1) (h2 : p 2) (h3 : p 3) (h4 : p 4) (h5 : p 5) : ∀ j, j < 6 → p j
  | 0, _ => h0
  | 1, _ => h1
  | 2, _ => h2
  | 3, _ => h3
  | 4, _ => h4
  | 5, _ => h5
  | n + 6, h => absurd h (by omega)
theorem all_mk {l : PySem.W.OpenLaw} {w : World} {K : PySem.W.Frag} {h : Heap} {mg : Str → Option Value} {fa f1 f2 f3 f4 f5 f6 f7 f8 f9 f10 f11 f12 f13 f14 f15 f16 f17 f18 f19 f20 f21 f22 f23 f24 f25 f26 f27 f28 f29 f30 f31 f32 : Addr} (X : K.In h) (G : h.Ns mainGlobals mg) (hfa : mg "law" = some (.ref fa))
    {od1 od2 od3 od4 od5 od6 od7 od8 od9 od10 od11 od12 od13 od14 od15 od16 od17 od18 od19 od20 od21 od22 od23 od24 od25 od26 od27 od28 od29 od30 od31 od32 an1 an2 an3 an4 an5 an6 an7 an8 an9 an10 an11 an12 an13 an14 an15 an16 an17 an18 an19 an20 an21 an22 an23 an24 an25 an26 an27 an28 an29 an30 an31 an32 : Option Addr} {sl1 sl2 sl3 sl4 sl5 sl6 sl7 sl8 sl9 sl10 sl11 sl12 sl13 sl14 sl15 sl16 sl17 sl18 sl19 sl20 sl21 sl22 sl23 sl24 sl25 sl26 sl27 sl28 sl29 sl30 sl31 sl32 : Array (Option Value)} {oc1 kV1 dc1 pm1 cd1 ct1 oc2 kV2 dc2 pm2 ct2 oc3 kV3 dc3 pm3 cd3 ct3 oc4 kV4 dc4 pm4 cd4 ct4 oc5 kV5 dc5 pm5 cd5 ct5 oc6 kV6 dc6 pm6 cd6 ct6 oc7 kV7 dc7 pm7 cd7 ct7 oc8 kV8 dc8 pm8 cd8 ct8 oc9 kV9 dc9 pm9 cd9 ct9 oc10 kV10 dc10 pm10 cd10 ct10 oc11 kV11 dc11 pm11 cd11 ct11 oc12 kV12 dc12 pm12 cd12 ct12 oc13 kV13 dc13 pm13 cd13 ct13 oc14 kV14 dc14 pm14 cd14 ct14 oc15 kV15 dc15 pm15 cd15 ct15 oc16 kV16 dc16 pm16 cd16 ct16 oc17 kV17 dc17 pm17 cd17 ct17 oc18 kV18 dc18 pm18 cd18 ct18 oc19 kV19 dc19 pm19 cd19 ct19 oc20 kV20 dc20 pm20 cd20 ct20 oc21 kV21 dc21 pm21 cd21 ct21 oc22 kV22 dc22 pm22 cd22 ct22 oc23 kV23 dc23 pm23 cd23 ct23 oc24 kV24 dc24 pm24 cd24 ct24 oc25 kV25 dc25 pm25 cd25 ct25 oc26 kV26 dc26 pm26 cd26 ct26 oc27 kV27 dc27 pm27 cd27 ct27 oc28 kV28 dc28 pm28 cd28 ct28 oc29 kV29 dc29 pm29 cd29 ct29 oc30 kV30 dc30 pm30 cd30 ct30 oc31 kV31 dc31 pm31 cd31 ct31 oc32 kV32 dc32 pm32 cd32 ct32 : Value}
    {cc T : Addr} {ee : Value} {edd : Option Addr} {evs : Array Value} {esl : Array (Option Value)}
    (a1 : PySem.W.nsIn K mainGlobals "is_whole" = some (some (.ref f1))) (l1 : K.lookup f1 = some ⟨oc1, od1, .func (PySem.W.fnOf "is_whole" "is_whole" (defArgs sIsWhole) (defBody sIsWhole) (defScope sIsWhole) .none kV1 dc1 pm1 an1 cd1 ct1), sl1⟩) (c1 : PySem.W.codeIn K cd1 "is_whole" = true) (k1 : PySem.W.keepIn K (.ref f1) = true)
    (a2 : PySem.W.nsIn K mainGlobals "is_whole_list" = some (some (.ref f2))) (l2 : K.lookup f2 = some ⟨oc2, od2, .func (PySem.W.fnOf "is_whole_list" "is_whole_list" (defArgs sIsWholeList) (defBody sIsWholeList) (defScope sIsWholeList) .none kV2 dc2 pm2 an2 (.ref cc) ct2), sl2⟩) (c2 : PySem.W.codeIn K (.ref cc) "is_whole_list" = true) (k2 : PySem.W.keepIn K (.ref f2) = true)
    (a3 : PySem.W.nsIn K mainGlobals "is_taking" = some (some (.ref f3))) (l3 : K.lookup f3 = some ⟨oc3, od3, .func (PySem.W.fnOf "is_taking" "is_taking" (defArgs sIsTaking) (defBody sIsTaking) (defScope sIsTaking) .none kV3 dc3 pm3 an3 cd3 ct3), sl3⟩) (c3 : PySem.W.codeIn K cd3 "is_taking" = true) (k3 : PySem.W.keepIn K (.ref f3) = true)
    (a4 : PySem.W.nsIn K mainGlobals "check_factor" = some (some (.ref f4))) (l4 : K.lookup f4 = some ⟨oc4, od4, .func (PySem.W.fnOf "check_factor" "check_factor" (defArgs sCkFactor) (defBody sCkFactor) (defScope sCkFactor) .none kV4 dc4 pm4 an4 cd4 ct4), sl4⟩) (c4 : PySem.W.codeIn K cd4 "check_factor" = true) (k4 : PySem.W.keepIn K (.ref f4) = true)
    (a5 : PySem.W.nsIn K mainGlobals "check_heap" = some (some (.ref f5))) (l5 : K.lookup f5 = some ⟨oc5, od5, .func (PySem.W.fnOf "check_heap" "check_heap" (defArgs sCkHeap) (defBody sCkHeap) (defScope sCkHeap) .none kV5 dc5 pm5 an5 cd5 ct5), sl5⟩) (c5 : PySem.W.codeIn K cd5 "check_heap" = true) (k5 : PySem.W.keepIn K (.ref f5) = true)
    (a6 : PySem.W.nsIn K mainGlobals "step_by" = some (some (.ref f6))) (l6 : K.lookup f6 = some ⟨oc6, od6, .func (PySem.W.fnOf "step_by" "step_by" (defArgs sStepBy) (defBody sStepBy) (defScope sStepBy) .none kV6 dc6 pm6 an6 cd6 ct6), sl6⟩) (c6 : PySem.W.codeIn K cd6 "step_by" = true) (k6 : PySem.W.keepIn K (.ref f6) = true)
    (a7 : PySem.W.nsIn K mainGlobals "sum_of" = some (some (.ref f7))) (l7 : K.lookup f7 = some ⟨oc7, od7, .func (PySem.W.fnOf "sum_of" "sum_of" (defArgs sSumOf) (defBody sSumOf) (defScope sSumOf) .none kV7 dc7 pm7 an7 cd7 ct7), sl7⟩) (c7 : PySem.W.codeIn K cd7 "sum_of" = true) (k7 : PySem.W.keepIn K (.ref f7) = true)
    (a8 : PySem.W.nsIn K mainGlobals "whole" = some (some (.ref f8))) (l8 : K.lookup f8 = some ⟨oc8, od8, .func (PySem.W.fnOf "whole" "whole" (defArgs sWhole) (defBody sWhole) (defScope sWhole) .none kV8 dc8 pm8 an8 cd8 ct8), sl8⟩) (c8 : PySem.W.codeIn K cd8 "whole" = true) (k8 : PySem.W.keepIn K (.ref f8) = true)
    (a9 : PySem.W.nsIn K mainGlobals "add_step" = some (some (.ref f9))) (l9 : K.lookup f9 = some ⟨oc9, od9, .func (PySem.W.fnOf "add_step" "add_step" (defArgs sAddStep) (defBody sAddStep) (defScope sAddStep) .none kV9 dc9 pm9 an9 cd9 ct9), sl9⟩) (c9 : PySem.W.codeIn K cd9 "add_step" = true) (k9 : PySem.W.keepIn K (.ref f9) = true)
    (a10 : PySem.W.nsIn K mainGlobals "row_past" = some (some (.ref f10))) (l10 : K.lookup f10 = some ⟨oc10, od10, .func (PySem.W.fnOf "row_past" "row_past" (defArgs sRowPast) (defBody sRowPast) (defScope sRowPast) .none kV10 dc10 pm10 an10 cd10 ct10), sl10⟩) (c10 : PySem.W.codeIn K cd10 "row_past" = true) (k10 : PySem.W.keepIn K (.ref f10) = true)
    (a11 : PySem.W.nsIn K mainGlobals "check_number" = some (some (.ref f11))) (l11 : K.lookup f11 = some ⟨oc11, od11, .func (PySem.W.fnOf "check_number" "check_number" (defArgs sCkNumber) (defBody sCkNumber) (defScope sCkNumber) .none kV11 dc11 pm11 an11 cd11 ct11), sl11⟩) (c11 : PySem.W.codeIn K cd11 "check_number" = true) (k11 : PySem.W.keepIn K (.ref f11) = true)
    (a12 : PySem.W.nsIn K mainGlobals "check_whole_parts" = some (some (.ref f12))) (l12 : K.lookup f12 = some ⟨oc12, od12, .func (PySem.W.fnOf "check_whole_parts" "check_whole_parts" (defArgs sCkParts) (defBody sCkParts) (defScope sCkParts) .none kV12 dc12 pm12 an12 cd12 ct12), sl12⟩) (c12 : PySem.W.codeIn K cd12 "check_whole_parts" = true) (k12 : PySem.W.keepIn K (.ref f12) = true)
    (a13 : PySem.W.nsIn K mainGlobals "left_by" = some (some (.ref f13))) (l13 : K.lookup f13 = some ⟨oc13, od13, .func (PySem.W.fnOf "left_by" "left_by" (defArgs sLeftBy) (defBody sLeftBy) (defScope sLeftBy) .none kV13 dc13 pm13 an13 cd13 ct13), sl13⟩) (c13 : PySem.W.codeIn K cd13 "left_by" = true) (k13 : PySem.W.keepIn K (.ref f13) = true)
    (a14 : PySem.W.nsIn K mainGlobals "told" = some (some (.ref f14))) (l14 : K.lookup f14 = some ⟨oc14, od14, .func (PySem.W.fnOf "told" "told" (defArgs sTold) (defBody sTold) (defScope sTold) .none kV14 dc14 pm14 an14 cd14 ct14), sl14⟩) (c14 : PySem.W.codeIn K cd14 "told" = true) (k14 : PySem.W.keepIn K (.ref f14) = true)
    (a15 : PySem.W.nsIn K mainGlobals "behind" = some (some (.ref f15))) (l15 : K.lookup f15 = some ⟨oc15, od15, .func (PySem.W.fnOf "behind" "behind" (defArgs sBehind) (defBody sBehind) (defScope sBehind) .none kV15 dc15 pm15 an15 cd15 ct15), sl15⟩) (c15 : PySem.W.codeIn K cd15 "behind" = true) (k15 : PySem.W.keepIn K (.ref f15) = true)
    (a16 : PySem.W.nsIn K mainGlobals "check_turn" = some (some (.ref f16))) (l16 : K.lookup f16 = some ⟨oc16, od16, .func (PySem.W.fnOf "check_turn" "check_turn" (defArgs sCkTurn) (defBody sCkTurn) (defScope sCkTurn) .none kV16 dc16 pm16 an16 cd16 ct16), sl16⟩) (c16 : PySem.W.codeIn K cd16 "check_turn" = true) (k16 : PySem.W.keepIn K (.ref f16) = true)
    (a17 : PySem.W.nsIn K mainGlobals "check_limit" = some (some (.ref f17))) (l17 : K.lookup f17 = some ⟨oc17, od17, .func (PySem.W.fnOf "check_limit" "check_limit" (defArgs sCkLimit) (defBody sCkLimit) (defScope sCkLimit) .none kV17 dc17 pm17 an17 cd17 ct17), sl17⟩) (c17 : PySem.W.codeIn K cd17 "check_limit" = true) (k17 : PySem.W.keepIn K (.ref f17) = true)
    (a18 : PySem.W.nsIn K mainGlobals "check_taking" = some (some (.ref f18))) (l18 : K.lookup f18 = some ⟨oc18, od18, .func (PySem.W.fnOf "check_taking" "check_taking" (defArgs sCkTaking) (defBody sCkTaking) (defScope sCkTaking) .none kV18 dc18 pm18 an18 cd18 ct18), sl18⟩) (c18 : PySem.W.codeIn K cd18 "check_taking" = true) (k18 : PySem.W.keepIn K (.ref f18) = true)
    (a19 : PySem.W.nsIn K mainGlobals "_law_cell_at" = some (some (.ref f19))) (l19 : K.lookup f19 = some ⟨oc19, od19, .func (PySem.W.fnOf "_law_cell_at" "_law_cell_at" (defArgs sCellAt) (defBody sCellAt) (defScope sCellAt) .none kV19 dc19 pm19 an19 cd19 ct19), sl19⟩) (c19 : PySem.W.codeIn K cd19 "_law_cell_at" = true) (k19 : PySem.W.keepIn K (.ref f19) = true)
    (a20 : PySem.W.nsIn K mainGlobals "_law_draw" = some (some (.ref f20))) (l20 : K.lookup f20 = some ⟨oc20, od20, .func (PySem.W.fnOf "_law_draw" "_law_draw" (defArgs sDraw) (defBody sDraw) (defScope sDraw) .none kV20 dc20 pm20 an20 cd20 ct20), sl20⟩) (c20 : PySem.W.codeIn K cd20 "_law_draw" = true) (k20 : PySem.W.keepIn K (.ref f20) = true)
    (a21 : PySem.W.nsIn K mainGlobals "_law_value" = some (some (.ref f21))) (l21 : K.lookup f21 = some ⟨oc21, od21, .func (PySem.W.fnOf "_law_value" "_law_value" (defArgs sValue) (defBody sValue) (defScope sValue) .none kV21 dc21 pm21 an21 cd21 ct21), sl21⟩) (c21 : PySem.W.codeIn K cd21 "_law_value" = true) (k21 : PySem.W.keepIn K (.ref f21) = true)
    (a22 : PySem.W.nsIn K mainGlobals "_law_factor" = some (some (.ref f22))) (l22 : K.lookup f22 = some ⟨oc22, od22, .func (PySem.W.fnOf "_law_factor" "_law_factor" (defArgs sFactor) (defBody sFactor) (defScope sFactor) .none kV22 dc22 pm22 an22 cd22 ct22), sl22⟩) (c22 : PySem.W.codeIn K cd22 "_law_factor" = true) (k22 : PySem.W.keepIn K (.ref f22) = true)
    (a23 : PySem.W.nsIn K mainGlobals "_law_kinds" = some (some (.ref f23))) (l23 : K.lookup f23 = some ⟨oc23, od23, .func (PySem.W.fnOf "_law_kinds" "_law_kinds" (defArgs sLawKinds) (defBody sLawKinds) (defScope sLawKinds) .none kV23 dc23 pm23 an23 cd23 ct23), sl23⟩) (c23 : PySem.W.codeIn K cd23 "_law_kinds" = true) (k23 : PySem.W.keepIn K (.ref f23) = true)
    (a24 : PySem.W.nsIn K mainGlobals "_law_with_factor" = some (some (.ref f24))) (l24 : K.lookup f24 = some ⟨oc24, od24, .func (PySem.W.fnOf "_law_with_factor" "_law_with_factor" (defArgs sLawWithFactor) (defBody sLawWithFactor) (defScope sLawWithFactor) .none kV24 dc24 pm24 an24 cd24 ct24), sl24⟩) (c24 : PySem.W.codeIn K cd24 "_law_with_factor" = true) (k24 : PySem.W.keepIn K (.ref f24) = true)
    (a25 : PySem.W.nsIn K mainGlobals "_law_with_heap" = some (some (.ref f25))) (l25 : K.lookup f25 = some ⟨oc25, od25, .func (PySem.W.fnOf "_law_with_heap" "_law_with_heap" (defArgs sLawWithHeap) (defBody sLawWithHeap) (defScope sLawWithHeap) .none kV25 dc25 pm25 an25 cd25 ct25), sl25⟩) (c25 : PySem.W.codeIn K cd25 "_law_with_heap" = true) (k25 : PySem.W.keepIn K (.ref f25) = true)
    (a26 : PySem.W.nsIn K mainGlobals "_law_with_limit" = some (some (.ref f26))) (l26 : K.lookup f26 = some ⟨oc26, od26, .func (PySem.W.fnOf "_law_with_limit" "_law_with_limit" (defArgs sLawWithLimit) (defBody sLawWithLimit) (defScope sLawWithLimit) .none kV26 dc26 pm26 an26 cd26 ct26), sl26⟩) (c26 : PySem.W.codeIn K cd26 "_law_with_limit" = true) (k26 : PySem.W.keepIn K (.ref f26) = true)
    (a27 : PySem.W.nsIn K mainGlobals "_law_with_number" = some (some (.ref f27))) (l27 : K.lookup f27 = some ⟨oc27, od27, .func (PySem.W.fnOf "_law_with_number" "_law_with_number" (defArgs sLawWithNumber) (defBody sLawWithNumber) (defScope sLawWithNumber) .none kV27 dc27 pm27 an27 cd27 ct27), sl27⟩) (c27 : PySem.W.codeIn K cd27 "_law_with_number" = true) (k27 : PySem.W.keepIn K (.ref f27) = true)
    (a28 : PySem.W.nsIn K mainGlobals "_law_with_sum" = some (some (.ref f28))) (l28 : K.lookup f28 = some ⟨oc28, od28, .func (PySem.W.fnOf "_law_with_sum" "_law_with_sum" (defArgs sLawWithSum) (defBody sLawWithSum) (defScope sLawWithSum) .none kV28 dc28 pm28 an28 cd28 ct28), sl28⟩) (c28 : PySem.W.codeIn K cd28 "_law_with_sum" = true) (k28 : PySem.W.keepIn K (.ref f28) = true)
    (a29 : PySem.W.nsIn K mainGlobals "_law_with_taking" = some (some (.ref f29))) (l29 : K.lookup f29 = some ⟨oc29, od29, .func (PySem.W.fnOf "_law_with_taking" "_law_with_taking" (defArgs sLawWithTaking) (defBody sLawWithTaking) (defScope sLawWithTaking) .none kV29 dc29 pm29 an29 cd29 ct29), sl29⟩) (c29 : PySem.W.codeIn K cd29 "_law_with_taking" = true) (k29 : PySem.W.keepIn K (.ref f29) = true)
    (a30 : PySem.W.nsIn K mainGlobals "_law_told" = some (some (.ref f30))) (l30 : K.lookup f30 = some ⟨oc30, od30, .func (PySem.W.fnOf "_law_told" "_law_told" (defArgs sLawTold) (defBody sLawTold) (defScope sLawTold) .none kV30 dc30 pm30 an30 cd30 ct30), sl30⟩) (c30 : PySem.W.codeIn K cd30 "_law_told" = true) (k30 : PySem.W.keepIn K (.ref f30) = true)
    (a31 : PySem.W.nsIn K mainGlobals "_law_all" = some (some (.ref f31))) (l31 : K.lookup f31 = some ⟨oc31, od31, .func (PySem.W.fnOf "_law_all" "_law_all" (defArgs sLawAll) (defBody sLawAll) (defScope sLawAll) .none kV31 dc31 pm31 an31 cd31 ct31), sl31⟩) (c31 : PySem.W.codeIn K cd31 "_law_all" = true) (k31 : PySem.W.keepIn K (.ref f31) = true)
    (a32 : PySem.W.nsIn K mainGlobals "law" = some (some (.ref f32))) (l32 : K.lookup f32 = some ⟨oc32, od32, .func (PySem.W.fnOf "law" "law" (defArgs sLaw) (defBody sLaw) (defScope sLaw) .none kV32 dc32 pm32 an32 cd32 ct32), sl32⟩) (c32 : PySem.W.codeIn K cd32 "law" = true) (k32 : PySem.W.keepIn K (.ref f32) = true)
    (z_type : PySem.W.nsIn K mainGlobals "type" = some none)
    (z_int : PySem.W.nsIn K mainGlobals "int" = some none)
    (z_list : PySem.W.nsIn K mainGlobals "list" = some none)
    (z_range : PySem.W.nsIn K mainGlobals "range" = some none)
    (z_reversed : PySem.W.nsIn K mainGlobals "reversed" = some none)
    (z_sum : PySem.W.nsIn K mainGlobals "sum" = some none)
    (z_all : PySem.W.nsIn K mainGlobals "all" = some none)
    (z_len : PySem.W.nsIn K mainGlobals "len" = some none)
    (z_isinstance : PySem.W.nsIn K mainGlobals "isinstance" = some none)
    (z_min : PySem.W.nsIn K mainGlobals "min" = some none)
    (z_ValueError : PySem.W.nsIn K mainGlobals "ValueError" = some none)
    {t_GREATEST_FACTOR : Tok} (y_GREATEST_FACTOR : PySem.W.nsIn K mainGlobals "GREATEST_FACTOR" = some (some (.int 30 t_GREATEST_FACTOR)))
    {t_GREATEST_NUMBER : Tok} (y_GREATEST_NUMBER : PySem.W.nsIn K mainGlobals "GREATEST_NUMBER" = some (some (.int 3000 t_GREATEST_NUMBER)))
    {C0 : Addr} (aC0 : PySem.W.nsIn K mainGlobals "BadFactor" = some (some (.ref C0))) {C1 : Addr} (aC1 : PySem.W.nsIn K mainGlobals "BadHeap" = some (some (.ref C1))) {C2 : Addr} (aC2 : PySem.W.nsIn K mainGlobals "BadLimit" = some (some (.ref C2))) {C3 : Addr} (aC3 : PySem.W.nsIn K mainGlobals "BadNumber" = some (some (.ref C3))) {C4 : Addr} (aC4 : PySem.W.nsIn K mainGlobals "BadSum" = some (some (.ref C4))) {C5 : Addr} (aC5 : PySem.W.nsIn K mainGlobals "BadTaking" = some (some (.ref C5))) {CT : Addr} (aCT : PySem.W.nsIn K mainGlobals "TakeError" = some (some (.ref CT)))
    (xC0 : PySem.W.excIn K C0 [.type "ValueError", .type "Exception", .type "BaseException", .type "object"] "ValueError.__new__" = true) (kC0 : PySem.W.keepIn K (.ref C0) = true) (bC0 : PySem.W.subIn K (.ref C0) (.type "BaseException") = some true) (tC0 : PySem.W.typeIn K (.ref C0) = some (.type "type")) (ga0 : PySem.W.findIn K (.ref C0) "__getattribute__" = some (some (.builtin "BaseException.__getattribute__"))) (gg0 : PySem.W.findIn K (.ref C0) "__getattr__" = some none) (hd0 : PySem.W.hasDictIn K C0 = true) (ha0 : PySem.W.findIn K (.ref C0) "__class__" = some (some (.builtin "object.__class__"))) (hm0 : PySem.W.mroIn K C0 (.type "object") = some true) (ex0 : PySem.W.exmOne K (.ref C0) (.ref CT) = some true) (kv0 : PySem.W.kitOne K (.ref C0) (.type "ValueError") = some true) (k_0_0 : PySem.W.kitOne K (.ref C0) (.ref C0) = some true) (k_0_1 : PySem.W.kitOne K (.ref C0) (.ref C1) = some false) (k_0_2 : PySem.W.kitOne K (.ref C0) (.ref C2) = some false) (k_0_3 : PySem.W.kitOne K (.ref C0) (.ref C3) = some false) (k_0_4 : PySem.W.kitOne K (.ref C0) (.ref C4) = some false) (k_0_5 : PySem.W.kitOne K (.ref C0) (.ref C5) = some false)
    (xC1 : PySem.W.excIn K C1 [.type "ValueError", .type "Exception", .type "BaseException", .type "object"] "ValueError.__new__" = true) (kC1 : PySem.W.keepIn K (.ref C1) = true) (bC1 : PySem.W.subIn K (.ref C1) (.type "BaseException") = some true) (tC1 : PySem.W.typeIn K (.ref C1) = some (.type "type")) (ga1 : PySem.W.findIn K (.ref C1) "__getattribute__" = some (some (.builtin "BaseException.__getattribute__"))) (gg1 : PySem.W.findIn K (.ref C1) "__getattr__" = some none) (hd1 : PySem.W.hasDictIn K C1 = true) (ha1 : PySem.W.findIn K (.ref C1) "__class__" = some (some (.builtin "object.__class__"))) (hm1 : PySem.W.mroIn K C1 (.type "object") = some true) (ex1 : PySem.W.exmOne K (.ref C1) (.ref CT) = some true) (kv1 : PySem.W.kitOne K (.ref C1) (.type "ValueError") = some true) (k_1_0 : PySem.W.kitOne K (.ref C1) (.ref C0) = some false) (k_1_1 : PySem.W.kitOne K (.ref C1) (.ref C1) = some true) (k_1_2 : PySem.W.kitOne K (.ref C1) (.ref C2) = some false) (k_1_3 : PySem.W.kitOne K (.ref C1) (.ref C3) = some false) (k_1_4 : PySem.W.kitOne K (.ref C1) (.ref C4) = some false) (k_1_5 : PySem.W.kitOne K (.ref C1) (.ref C5) = some false)
    (xC2 : PySem.W.excIn K C2 [.type "ValueError", .type "Exception", .type "BaseException", .type "object"] "ValueError.__new__" = true) (kC2 : PySem.W.keepIn K (.ref C2) = true) (bC2 : PySem.W.subIn K (.ref C2) (.type "BaseException") = some true) (tC2 : PySem.W.typeIn K (.ref C2) = some (.type "type")) (ga2 : PySem.W.findIn K (.ref C2) "__getattribute__" = some (some (.builtin "BaseException.__getattribute__"))) (gg2 : PySem.W.findIn K (.ref C2) "__getattr__" = some none) (hd2 : PySem.W.hasDictIn K C2 = true) (ha2 : PySem.W.findIn K (.ref C2) "__class__" = some (some (.builtin "object.__class__"))) (hm2 : PySem.W.mroIn K C2 (.type "object") = some true) (ex2 : PySem.W.exmOne K (.ref C2) (.ref CT) = some true) (kv2 : PySem.W.kitOne K (.ref C2) (.type "ValueError") = some true) (k_2_0 : PySem.W.kitOne K (.ref C2) (.ref C0) = some false) (k_2_1 : PySem.W.kitOne K (.ref C2) (.ref C1) = some false) (k_2_2 : PySem.W.kitOne K (.ref C2) (.ref C2) = some true) (k_2_3 : PySem.W.kitOne K (.ref C2) (.ref C3) = some false) (k_2_4 : PySem.W.kitOne K (.ref C2) (.ref C4) = some false) (k_2_5 : PySem.W.kitOne K (.ref C2) (.ref C5) = some false)
    (xC3 : PySem.W.excIn K C3 [.type "ValueError", .type "Exception", .type "BaseException", .type "object"] "ValueError.__new__" = true) (kC3 : PySem.W.keepIn K (.ref C3) = true) (bC3 : PySem.W.subIn K (.ref C3) (.type "BaseException") = some true) (tC3 : PySem.W.typeIn K (.ref C3) = some (.type "type")) (ga3 : PySem.W.findIn K (.ref C3) "__getattribute__" = some (some (.builtin "BaseException.__getattribute__"))) (gg3 : PySem.W.findIn K (.ref C3) "__getattr__" = some none) (hd3 : PySem.W.hasDictIn K C3 = true) (ha3 : PySem.W.findIn K (.ref C3) "__class__" = some (some (.builtin "object.__class__"))) (hm3 : PySem.W.mroIn K C3 (.type "object") = some true) (ex3 : PySem.W.exmOne K (.ref C3) (.ref CT) = some true) (kv3 : PySem.W.kitOne K (.ref C3) (.type "ValueError") = some true) (k_3_0 : PySem.W.kitOne K (.ref C3) (.ref C0) = some false) (k_3_1 : PySem.W.kitOne K (.ref C3) (.ref C1) = some false) (k_3_2 : PySem.W.kitOne K (.ref C3) (.ref C2) = some false) (k_3_3 : PySem.W.kitOne K (.ref C3) (.ref C3) = some true) (k_3_4 : PySem.W.kitOne K (.ref C3) (.ref C4) = some false) (k_3_5 : PySem.W.kitOne K (.ref C3) (.ref C5) = some false)
    (xC4 : PySem.W.excIn K C4 [.type "ValueError", .type "Exception", .type "BaseException", .type "object"] "ValueError.__new__" = true) (kC4 : PySem.W.keepIn K (.ref C4) = true) (bC4 : PySem.W.subIn K (.ref C4) (.type "BaseException") = some true) (tC4 : PySem.W.typeIn K (.ref C4) = some (.type "type")) (ga4 : PySem.W.findIn K (.ref C4) "__getattribute__" = some (some (.builtin "BaseException.__getattribute__"))) (gg4 : PySem.W.findIn K (.ref C4) "__getattr__" = some none) (hd4 : PySem.W.hasDictIn K C4 = true) (ha4 : PySem.W.findIn K (.ref C4) "__class__" = some (some (.builtin "object.__class__"))) (hm4 : PySem.W.mroIn K C4 (.type "object") = some true) (ex4 : PySem.W.exmOne K (.ref C4) (.ref CT) = some true) (kv4 : PySem.W.kitOne K (.ref C4) (.type "ValueError") = some true) (k_4_0 : PySem.W.kitOne K (.ref C4) (.ref C0) = some false) (k_4_1 : PySem.W.kitOne K (.ref C4) (.ref C1) = some false) (k_4_2 : PySem.W.kitOne K (.ref C4) (.ref C2) = some false) (k_4_3 : PySem.W.kitOne K (.ref C4) (.ref C3) = some false) (k_4_4 : PySem.W.kitOne K (.ref C4) (.ref C4) = some true) (k_4_5 : PySem.W.kitOne K (.ref C4) (.ref C5) = some false)
    (xC5 : PySem.W.excIn K C5 [.type "ValueError", .type "Exception", .type "BaseException", .type "object"] "ValueError.__new__" = true) (kC5 : PySem.W.keepIn K (.ref C5) = true) (bC5 : PySem.W.subIn K (.ref C5) (.type "BaseException") = some true) (tC5 : PySem.W.typeIn K (.ref C5) = some (.type "type")) (ga5 : PySem.W.findIn K (.ref C5) "__getattribute__" = some (some (.builtin "BaseException.__getattribute__"))) (gg5 : PySem.W.findIn K (.ref C5) "__getattr__" = some none) (hd5 : PySem.W.hasDictIn K C5 = true) (ha5 : PySem.W.findIn K (.ref C5) "__class__" = some (some (.builtin "object.__class__"))) (hm5 : PySem.W.mroIn K C5 (.type "object") = some true) (ex5 : PySem.W.exmOne K (.ref C5) (.ref CT) = some true) (kv5 : PySem.W.kitOne K (.ref C5) (.type "ValueError") = some true) (k_5_0 : PySem.W.kitOne K (.ref C5) (.ref C0) = some false) (k_5_1 : PySem.W.kitOne K (.ref C5) (.ref C1) = some false) (k_5_2 : PySem.W.kitOne K (.ref C5) (.ref C2) = some false) (k_5_3 : PySem.W.kitOne K (.ref C5) (.ref C3) = some false) (k_5_4 : PySem.W.kitOne K (.ref C5) (.ref C4) = some false) (k_5_5 : PySem.W.kitOne K (.ref C5) (.ref C5) = some true)
    (hn0 : PySem.W.specialIn K (.builtin "object.__class__") "__get__" = some (some (.builtin "getset_descriptor.__get__"))) (htk0 : PySem.W.takesIn K (.builtin "object.__class__") = some true)
    (lc : K.lookup cc = some ⟨ee, edd, .fields evs, esl⟩) (e11 : evs[11]? = some (.ref T)) (nT : K.lookup T = none) (hcd : PySem.W.codeHdIn K cc T = true) (own : ∀ fb, mg "is_whole_list" = some (.ref fb) → LamX.OwnTab K fb h)
    : LamX.LawAtS l w K CX0 9 63 "_law_script" mg fa h := by
  have e := hfa.symm.trans (PySem.W.mg_of X G a32)
  cases e
  have F_is_whole := fun_mk (st := sIsWhole) l1 c1 k1
  have b_is_whole := F_is_whole.binds (ps := ["value", "least"]) fun _ _ _ _ _ _ us hl => match us, hl with | [_, _], _ => rfl
  have g_is_whole := PySem.W.mg_of X G a1
  have C_is_whole_list := func_mk (st := sIsWholeList) l2 c2 k2
  have F_is_whole_list := C_is_whole_list.fn
  have b_is_whole_list := F_is_whole_list.binds (ps := ["numbers", "least"]) fun _ _ _ _ _ _ us hl => match us, hl with | [_, _], _ => rfl
  have g_is_whole_list := PySem.W.mg_of X G a2
  have F_is_taking := fun_mk (st := sIsTaking) l3 c3 k3
  have b_is_taking := F_is_taking.binds (ps := ["heap", "limit", "taking"]) fun _ _ _ _ _ _ us hl => match us, hl with | [_, _, _], _ => rfl
  have g_is_taking := PySem.W.mg_of X G a3
  have F_check_factor := fun_mk (st := sCkFactor) l4 c4 k4
  have b_check_factor := F_check_factor.binds (ps := ["factor"]) fun _ _ _ _ _ _ us hl => match us, hl with | [_], _ => rfl
  have g_check_factor := PySem.W.mg_of X G a4
  have F_check_heap := fun_mk (st := sCkHeap) l5 c5 k5
  have b_check_heap := F_check_heap.binds (ps := ["heap"]) fun _ _ _ _ _ _ us hl => match us, hl with | [_], _ => rfl
  have g_check_heap := PySem.W.mg_of X G a5
  have F_step_by := fun_mk (st := sStepBy) l6 c6 k6
  have b_step_by := F_step_by.binds (ps := ["factor", "number"]) fun _ _ _ _ _ _ us hl => match us, hl with | [_, _], _ => rfl
  have g_step_by := PySem.W.mg_of X G a6
  have F_sum_of := fun_mk (st := sSumOf) l7 c7 k7
  have b_sum_of := F_sum_of.binds (ps := ["factor", "heap"]) fun _ _ _ _ _ _ us hl => match us, hl with | [_, _], _ => rfl
  have g_sum_of := PySem.W.mg_of X G a7
  have F_whole := fun_mk (st := sWhole) l8 c8 k8
  have b_whole := F_whole.binds (ps := ["factor", "parts"]) fun _ _ _ _ _ _ us hl => match us, hl with | [_, _], _ => rfl
  have g_whole := PySem.W.mg_of X G a8
  have F_add_step := fun_mk (st := sAddStep) l9 c9 k9
  have b_add_step := F_add_step.binds (ps := ["factor", "row", "place"]) fun _ _ _ _ _ _ us hl => match us, hl with | [_, _, _], _ => rfl
  have g_add_step := PySem.W.mg_of X G a9
  have F_row_past := fun_mk (st := sRowPast) l10 c10 k10
  have b_row_past := F_row_past.binds (ps := ["factor", "heap"]) fun _ _ _ _ _ _ us hl => match us, hl with | [_, _], _ => rfl
  have g_row_past := PySem.W.mg_of X G a10
  have F_check_number := fun_mk (st := sCkNumber) l11 c11 k11
  have b_check_number := F_check_number.binds (ps := ["number"]) fun _ _ _ _ _ _ us hl => match us, hl with | [_], _ => rfl
  have g_check_number := PySem.W.mg_of X G a11
  have F_check_whole_parts := fun_mk (st := sCkParts) l12 c12 k12
  have b_check_whole_parts := F_check_whole_parts.binds (ps := ["parts"]) fun _ _ _ _ _ _ us hl => match us, hl with | [_], _ => rfl
  have g_check_whole_parts := PySem.W.mg_of X G a12
  have F_left_by := fun_mk (st := sLeftBy) l13 c13 k13
  have b_left_by := F_left_by.binds (ps := ["factor", "heap", "taking"]) fun _ _ _ _ _ _ us hl => match us, hl with | [_, _, _], _ => rfl
  have g_left_by := PySem.W.mg_of X G a13
  have F_told := fun_mk (st := sTold) l14 c14 k14
  have b_told := F_told.binds (ps := ["factor", "heap", "limit"]) fun _ _ _ _ _ _ us hl => match us, hl with | [_, _, _], _ => rfl
  have g_told := PySem.W.mg_of X G a14
  have F_behind := fun_mk (st := sBehind) l15 c15 k15
  have b_behind := F_behind.binds (ps := ["factor", "heap", "limit", "taking"]) fun _ _ _ _ _ _ us hl => match us, hl with | [_, _, _, _], _ => rfl
  have g_behind := PySem.W.mg_of X G a15
  have F_check_turn := fun_mk (st := sCkTurn) l16 c16 k16
  have b_check_turn := F_check_turn.binds (ps := ["factor", "heap", "limit"]) fun _ _ _ _ _ _ us hl => match us, hl with | [_, _, _], _ => rfl
  have g_check_turn := PySem.W.mg_of X G a16
  have F_check_limit := fun_mk (st := sCkLimit) l17 c17 k17
  have b_check_limit := F_check_limit.binds (ps := ["limit"]) fun _ _ _ _ _ _ us hl => match us, hl with | [_], _ => rfl
  have g_check_limit := PySem.W.mg_of X G a17
  have F_check_taking := fun_mk (st := sCkTaking) l18 c18 k18
  have b_check_taking := F_check_taking.binds (ps := ["heap", "limit", "taking"]) fun _ _ _ _ _ _ us hl => match us, hl with | [_, _, _], _ => rfl
  have g_check_taking := PySem.W.mg_of X G a18
  have F_l_cell_at := fun_mk (st := sCellAt) l19 c19 k19
  have b_l_cell_at := F_l_cell_at.binds (ps := ["_law_script", "_law_k"]) fun _ _ _ _ _ _ us hl => match us, hl with | [_, _], _ => rfl
  have g_l_cell_at := PySem.W.mg_of X G a19
  have F_l_draw := fun_mk (st := sDraw) l20 c20 k20
  have b_l_draw := F_l_draw.binds (ps := ["_law_cell", "_law_k", "_law_many"]) fun _ _ _ _ _ _ us hl => match us, hl with | [_, _, _], _ => rfl
  have g_l_draw := PySem.W.mg_of X G a20
  have F_l_value := fun_mk (st := sValue) l21 c21 k21
  have b_l_value := F_l_value.binds (ps := ["_law_cell", "_law_k", "_law_limit"]) fun _ _ _ _ _ _ us hl => match us, hl with | [_, _, _], _ => rfl
  have g_l_value := PySem.W.mg_of X G a21
  have F_l_factor := fun_mk (st := sFactor) l22 c22 k22
  have b_l_factor := F_l_factor.binds (ps := ["_law_script", "_law_k"]) fun _ _ _ _ _ _ us hl => match us, hl with | [_, _], _ => rfl
  have g_l_factor := PySem.W.mg_of X G a22
  have F_l_kinds := fun_mk (st := sLawKinds) l23 c23 k23
  have b_l_kinds := F_l_kinds.binds (ps := ["_law_error"]) fun _ _ _ _ _ _ us hl => match us, hl with | [_], _ => rfl
  have g_l_kinds := PySem.W.mg_of X G a23
  have F_l_with_factor := fun_mk (st := sLawWithFactor) l24 c24 k24
  have b_l_with_factor := F_l_with_factor.binds (ps := ["_law_door", "_law_factor_here"]) fun _ _ _ _ _ _ us hl => match us, hl with | [_, _], _ => rfl
  have g_l_with_factor := PySem.W.mg_of X G a24
  have F_l_with_heap := fun_mk (st := sLawWithHeap) l25 c25 k25
  have b_l_with_heap := F_l_with_heap.binds (ps := ["_law_door", "_law_heap"]) fun _ _ _ _ _ _ us hl => match us, hl with | [_, _], _ => rfl
  have g_l_with_heap := PySem.W.mg_of X G a25
  have F_l_with_limit := fun_mk (st := sLawWithLimit) l26 c26 k26
  have b_l_with_limit := F_l_with_limit.binds (ps := ["_law_door", "_law_limit"]) fun _ _ _ _ _ _ us hl => match us, hl with | [_, _], _ => rfl
  have g_l_with_limit := PySem.W.mg_of X G a26
  have F_l_with_number := fun_mk (st := sLawWithNumber) l27 c27 k27
  have b_l_with_number := F_l_with_number.binds (ps := ["_law_door", "_law_number"]) fun _ _ _ _ _ _ us hl => match us, hl with | [_, _], _ => rfl
  have g_l_with_number := PySem.W.mg_of X G a27
  have F_l_with_sum := fun_mk (st := sLawWithSum) l28 c28 k28
  have b_l_with_sum := F_l_with_sum.binds (ps := ["_law_factor_here", "_law_parts"]) fun _ _ _ _ _ _ us hl => match us, hl with | [_, _], _ => rfl
  have g_l_with_sum := PySem.W.mg_of X G a28
  have F_l_with_taking := fun_mk (st := sLawWithTaking) l29 c29 k29
  have b_l_with_taking := F_l_with_taking.binds (ps := ["_law_where", "_law_taking"]) fun _ _ _ _ _ _ us hl => match us, hl with | [_, _], _ => rfl
  have g_l_with_taking := PySem.W.mg_of X G a29
  have F_l_told := fun_mk (st := sLawTold) l30 c30 k30
  have b_l_told := F_l_told.binds (ps := ["_law_ask", "_law_one", "_law_other"]) fun _ _ _ _ _ _ us hl => match us, hl with | [_, _, _], _ => rfl
  have g_l_told := PySem.W.mg_of X G a30
  have F_l_all := fun_mk (st := sLawAll) l31 c31 k31
  have b_l_all := F_l_all.binds (ps := ["_law_ask", "_law_doors", "_law_things", "_law_due"]) fun _ _ _ _ _ _ us hl => match us, hl with | [_, _, _, _], _ => rfl
  have g_l_all := PySem.W.mg_of X G a31
  have F_law := fun_mk (st := sLaw) l32 c32 k32
  have m_type := PySem.W.mg_none_of X G z_type
  have m_int := PySem.W.mg_none_of X G z_int
  have m_list := PySem.W.mg_none_of X G z_list
  have m_range := PySem.W.mg_none_of X G z_range
  have m_reversed := PySem.W.mg_none_of X G z_reversed
  have m_sum := PySem.W.mg_none_of X G z_sum
  have m_all := PySem.W.mg_none_of X G z_all
  have m_len := PySem.W.mg_none_of X G z_len
  have m_isinstance := PySem.W.mg_none_of X G z_isinstance
  have m_min := PySem.W.mg_none_of X G z_min
  have m_ValueError := PySem.W.mg_none_of X G z_ValueError
  have y_GREATEST_FACTOR := PySem.W.mg_of X G y_GREATEST_FACTOR
  have y_GREATEST_NUMBER := PySem.W.mg_of X G y_GREATEST_NUMBER
  have hT := own f2 g_is_whole_list cc T _ _ _ _ _ _ l2 rfl rfl lc e11
  refine ⟨(PySem.W.fnOf "law" "law" (defArgs sLaw) (defBody sLaw) (defScope sLaw) .none kV32 dc32 pm32 an32 cd32 ct32), [(cc, T)], spLaw K T, fun p hp => ?_, fun p hp => ?_, fun p hp => ?_, fun s v => .of_eq rfl, fun H a ns hl hb hH hS => ⟨a, ns, rfl, hS, hb, tab0 (hH (cc, T) List.mem_cons_self), fun _ => rfl⟩, fun base _ _ hTB => ?_⟩
  · obtain rfl : p = (cc, T) := List.mem_singleton.mp hp
    exact hT
  · obtain rfl : p = (cc, T) := List.mem_singleton.mp hp
    exact nT
  · obtain rfl : p = (cc, T) := List.mem_singleton.mp hp
    exact PySem.W.codeHd_of_K X hcd
  have TB := tabB_of (hTB (cc, T) List.mem_cons_self)
  have S : Six K mg (dAt C0 C1 C2 C3 C4 C5) := ⟨⟨xC0, PySem.W.mg_of X G aC0, kC0, bC0, tC0⟩, ⟨xC1, PySem.W.mg_of X G aC1, kC1, bC1, tC1⟩, ⟨xC2, PySem.W.mg_of X G aC2, kC2, bC2, tC2⟩, ⟨xC3, PySem.W.mg_of X G aC3, kC3, bC3, tC3⟩, ⟨xC4, PySem.W.mg_of X G aC4, kC4, bC4, tC4⟩, ⟨xC5, PySem.W.mg_of X G aC5, kC5, bC5, tC5⟩, six_at (p := fun j => ExcC K ((dAt C0 C1 C2 C3 C4 C5) j)) ⟨ga0, gg0, bC0, hd0, ha0, hn0, htk0, hm0⟩ ⟨ga1, gg1, bC1, hd1, ha1, hn0, htk0, hm1⟩ ⟨ga2, gg2, bC2, hd2, ha2, hn0, htk0, hm2⟩ ⟨ga3, gg3, bC3, hd3, ha3, hn0, htk0, hm3⟩ ⟨ga4, gg4, bC4, hd4, ha4, hn0, htk0, hm4⟩ ⟨ga5, gg5, bC5, hd5, ha5, hn0, htk0, hm5⟩,
    six_at (p := fun j => ∀ i, i < 6 → PySem.W.kitOne K (.ref ((dAt C0 C1 C2 C3 C4 C5) j)) (.ref ((dAt C0 C1 C2 C3 C4 C5) i)) = some (decide (j = i))) (six_at (p := fun i => PySem.W.kitOne K (.ref ((dAt C0 C1 C2 C3 C4 C5) 0)) (.ref ((dAt C0 C1 C2 C3 C4 C5) i)) = some (decide (0 = i))) k_0_0 k_0_1 k_0_2 k_0_3 k_0_4 k_0_5) (six_at (p := fun i => PySem.W.kitOne K (.ref ((dAt C0 C1 C2 C3 C4 C5) 1)) (.ref ((dAt C0 C1 C2 C3 C4 C5) i)) = some (decide (1 = i))) k_1_0 k_1_1 k_1_2 k_1_3 k_1_4 k_1_5) (six_at (p := fun i => PySem.W.kitOne K (.ref ((dAt C0 C1 C2 C3 C4 C5) 2)) (.ref ((dAt C0 C1 C2 C3 C4 C5) i)) = some (decide (2 = i))) k_2_0 k_2_1 k_2_2 k_2_3 k_2_4 k_2_5) (six_at (p := fun i => PySem.W.kitOne K (.ref ((dAt C0 C1 C2 C3 C4 C5) 3)) (.ref ((dAt C0 C1 C2 C3 C4 C5) i)) = some (decide (3 = i))) k_3_0 k_3_1 k_3_2 k_3_3 k_3_4 k_3_5) (six_at (p := fun i => PySem.W.kitOne K (.ref ((dAt C0 C1 C2 C3 C4 C5) 4)) (.ref ((dAt C0 C1 C2 C3 C4 C5) i)) = some (decide (4 = i))) k_4_0 k_4_1 k_4_2 k_4_3 k_4_4 k_4_5) (six_at (p := fun i => PySem.W.kitOne K (.ref ((dAt C0 C1 C2 C3 C4 C5) 5)) (.ref ((dAt C0 C1 C2 C3 C4 C5) i)) = some (decide (5 = i))) k_5_0 k_5_1 k_5_2 k_5_3 k_5_4 k_5_5),
    six_at (p := fun j => PySem.W.kitOne K (.ref ((dAt C0 C1 C2 C3 C4 C5) j)) (.type "ValueError") = some true) kv0 kv1 kv2 kv3 kv4 kv5⟩
  have hex : ∀ j, j < 6 → PySem.W.exmOne K (.ref ((dAt C0 C1 C2 C3 C4 C5) j)) (.ref CT) = some true := six_at (p := fun j => PySem.W.exmOne K (.ref ((dAt C0 C1 C2 C3 C4 C5) j)) (.ref CT) = some true) ex0 ex1 ex2 ex3 ex4 ex5
  have G_ckf : FnOk l.prog w K mg base (L2.CX l.prog w) 2 _ _ ["factor"] (spXIn K 1 30 ((dAt C0 C1 C2 C3 C4 C5) 0)) := ok_x_factor F_check_factor F_is_whole b_is_whole g_is_whole y_GREATEST_FACTOR m_type m_int S.x0
  have G_ckn : FnOk l.prog w K mg base (L2.CX l.prog w) 2 _ _ ["number"] (spXIn K 0 3000 ((dAt C0 C1 C2 C3 C4 C5) 3)) := ok_x_number F_check_number F_is_whole b_is_whole g_is_whole y_GREATEST_NUMBER m_type m_int S.x3
  have G_ckh : FnOk l.prog w K mg base (L2.CX l.prog w) 2 _ _ ["heap"] (spXFrom K 0 ((dAt C0 C1 C2 C3 C4 C5) 1)) := ok_x_heap F_check_heap F_is_whole b_is_whole g_is_whole m_type m_int S.x1
  have G_ckl : FnOk l.prog w K mg base (L2.CX l.prog w) 2 _ _ ["limit"] (spXFrom K 0 ((dAt C0 C1 C2 C3 C4 C5) 2)) := ok_x_limit F_check_limit F_is_whole b_is_whole g_is_whole m_type m_int S.x2
  have G_ist : FnOk l.prog w K mg base CX0 2 _ _ ["heap", "limit", "taking"] (spXIsTaking K) := ok_x_is_taking F_is_taking F_is_whole b_is_whole g_is_whole m_type m_int
  have G_ckt : FnOk l.prog w K mg base (L2.CX l.prog w) 3 _ _ ["heap", "limit", "taking"] (spXTaking K ((dAt C0 C1 C2 C3 C4 C5) 5)) := ok_x_taking F_check_taking G_ist F_is_taking.kp b_is_taking g_is_taking S.x5
  have G_turn : FnOk l.prog w K mg base (L2.CX l.prog w) 3 _ _ ["factor", "heap", "limit"] (spXTurn K (dAt C0 C1 C2 C3 C4 C5)) := ok_x_turn F_check_turn G_ckf F_check_factor.kp b_check_factor g_check_factor G_ckh F_check_heap.kp b_check_heap g_check_heap G_ckl F_check_limit.kp b_check_limit g_check_limit
  have G_told : FnOk l.prog w K mg base (L2.CX l.prog w) 4 _ _ ["factor", "heap", "limit"] (spXTold K (dAt C0 C1 C2 C3 C4 C5)) := ok_x_told F_told G_turn F_check_turn.kp b_check_turn g_check_turn
  have G_left : FnOk l.prog w K mg base CX0 1 _ _ ["factor", "heap", "taking"] (spLeftBy) := ok_left_by F_left_by
  have G_behind : FnOk l.prog w K mg base (L2.CX l.prog w) 4 _ _ ["factor", "heap", "limit", "taking"] (spXBehind K (dAt C0 C1 C2 C3 C4 C5)) := ok_x_behind F_behind G_turn F_check_turn.kp b_check_turn g_check_turn G_ckt F_check_taking.kp b_check_taking g_check_taking G_left F_left_by.kp b_left_by g_left_by
  have G_row : FnOk l.prog w K mg base CX0 2 _ _ ["factor", "heap"] (spRowPast) := ok_row_past F_row_past F_add_step b_add_step g_add_step
  have G_sum : FnOk l.prog w K mg base (L2.CX l.prog w) 3 _ _ ["factor", "heap"] (spXSumOf K (dAt C0 C1 C2 C3 C4 C5)) := ok_x_sum_of F_sum_of G_row F_row_past.kp b_row_past g_row_past G_ckf F_check_factor.kp b_check_factor g_check_factor G_ckh F_check_heap.kp b_check_heap g_check_heap m_reversed
  have G_step : FnOk l.prog w K mg base (L2.CX l.prog w) 3 _ _ ["factor", "number"] (spXStepBy K (dAt C0 C1 C2 C3 C4 C5)) := ok_x_step_by F_step_by F_add_step b_add_step g_add_step G_ckf F_check_factor.kp b_check_factor g_check_factor G_ckn F_check_number.kp b_check_number g_check_number m_range
  have G_wl : FnOk l.prog w K mg base CX0 3 _ _ ["numbers", "least"] (spIsWholeList K T) := ok_is_whole_list C_is_whole_list TB F_is_whole g_is_whole m_type m_int m_list m_all
  have G_ckp : FnOk l.prog w K mg base (L2.CX l.prog w) 4 _ _ ["parts"] (spXParts K T ((dAt C0 C1 C2 C3 C4 C5) 4)) := ok_x_parts F_check_whole_parts G_wl F_is_whole_list.kp b_is_whole_list g_is_whole_list S.x4
  have G_whole : FnOk l.prog w K mg base (L2.CX l.prog w) 5 _ _ ["factor", "parts"] (spXWhole K (dAt C0 C1 C2 C3 C4 C5) T) := ok_x_whole F_whole G_sum F_sum_of.kp b_sum_of g_sum_of G_ckf F_check_factor.kp b_check_factor g_check_factor G_ckp F_check_whole_parts.kp b_check_whole_parts g_check_whole_parts m_sum S.x4
  have G_wf : FnOk l.prog w K mg base (L2.CX l.prog w) 6 _ _ ["_law_door", "_law_factor_here"] (spWithFactor K (dAt C0 C1 C2 C3 C4 C5)) := ok_WithFactor (T := T) F_l_with_factor G_sum F_sum_of.kp b_sum_of g_sum_of G_step F_step_by.kp b_step_by g_step_by G_whole F_whole.kp b_whole g_whole G_told F_told.kp b_told g_told G_behind F_behind.kp b_behind g_behind
  have G_wh : FnOk l.prog w K mg base (L2.CX l.prog w) 6 _ _ ["_law_door", "_law_heap"] (spWithHeap K (dAt C0 C1 C2 C3 C4 C5)) := ok_WithHeap (T := T) F_l_with_heap G_sum F_sum_of.kp b_sum_of g_sum_of G_told F_told.kp b_told g_told G_behind F_behind.kp b_behind g_behind
  have G_wli : FnOk l.prog w K mg base (L2.CX l.prog w) 6 _ _ ["_law_door", "_law_limit"] (spWithLimit K (dAt C0 C1 C2 C3 C4 C5)) := ok_WithLimit (T := T) F_l_with_limit G_told F_told.kp b_told g_told G_behind F_behind.kp b_behind g_behind
  have G_wn : FnOk l.prog w K mg base (L2.CX l.prog w) 6 _ _ ["_law_door", "_law_number"] (spWithNumber K (dAt C0 C1 C2 C3 C4 C5)) := ok_WithNumber (T := T) F_l_with_number G_step F_step_by.kp b_step_by g_step_by
  have G_ws : FnOk l.prog w K mg base (L2.CX l.prog w) 6 _ _ ["_law_factor_here", "_law_parts"] (spWithSum K (dAt C0 C1 C2 C3 C4 C5) T) := ok_WithSum F_l_with_sum G_whole F_whole.kp b_whole g_whole
  have G_wt : FnOk l.prog w K mg base (L2.CX l.prog w) 6 _ _ ["_law_where", "_law_taking"] (spWithTaking K (dAt C0 C1 C2 C3 C4 C5)) := ok_WithTaking (T := T) F_l_with_taking G_behind F_behind.kp b_behind g_behind
  have G_kinds : FnK l.prog w K mg base 1 _ _ ["_law_error"] (spKinds (dAt C0 C1 C2 C3 C4 C5)) := ok_kinds F_l_kinds S m_isinstance m_ValueError
  have G_ltold : FnOk l.prog w K mg base CX0 7 _ _ ["_law_ask", "_law_one", "_law_other"] (spLTold l.prog w K mg base (dAt C0 C1 C2 C3 C4 C5)) := ok_ltold F_l_told G_kinds F_l_kinds.kp b_l_kinds g_l_kinds (PySem.W.mg_of X G aCT) hex
  have G_lall : FnOk l.prog w K mg base CX0 8 _ _ ["_law_ask", "_law_doors", "_law_things", "_law_due"] (spLAll l.prog w K mg base (dAt C0 C1 C2 C3 C4 C5)) := ok_lall F_l_all G_ltold F_l_told.kp b_l_told g_l_told m_all
  have G_cell_at : FnOk l.prog w K mg base CX0 1 _ _ ["_law_script", "_law_k"] (spCellAt K) := ok_cell_at F_l_cell_at m_len
  have G_value : FnOk l.prog w K mg base CX0 2 _ _ ["_law_cell", "_law_k", "_law_limit"] (spValue) := ok_value F_l_value F_l_draw b_l_draw g_l_draw
  have G_factor : FnOk l.prog w K mg base CX0 2 _ _ ["_law_script", "_law_k"] (spFactor K) := ok_factor F_l_factor F_l_draw b_l_draw g_l_draw F_l_cell_at b_l_cell_at g_l_cell_at m_len
  exact ok_law F_law ⟨_, _, G_cell_at, F_l_cell_at.kp, b_l_cell_at, g_l_cell_at⟩ ⟨_, _, G_value, F_l_value.kp, b_l_value, g_l_value⟩ ⟨_, _, G_factor, F_l_factor.kp, b_l_factor, g_l_factor⟩ ⟨_, _, G_ltold, F_l_told.kp, b_l_told, g_l_told⟩ ⟨_, _, G_lall, F_l_all.kp, b_l_all, g_l_all⟩ ⟨_, _, G_behind, F_behind.kp, b_behind, g_behind⟩ ⟨_, _, G_whole, F_whole.kp, b_whole, g_whole⟩ ⟨_, _, G_step, F_step_by.kp, b_step_by, g_step_by⟩ ⟨_, _, G_wf, F_l_with_factor.kp, b_l_with_factor, g_l_with_factor⟩ ⟨_, _, G_wh, F_l_with_heap.kp, b_l_with_heap, g_l_with_heap⟩ ⟨_, _, G_wli, F_l_with_limit.kp, b_l_with_limit, g_l_with_limit⟩ ⟨_, _, G_wn, F_l_with_number.kp, b_l_with_number, g_l_with_number⟩ ⟨_, _, G_ws, F_l_with_sum.kp, b_l_with_sum, g_l_with_sum⟩ ⟨_, _, G_wt, F_l_with_taking.kp, b_l_with_taking, g_l_with_taking⟩ m_range m_min
end TA
open PySem PySem.W PyProof.Rows
set_option maxRecDepth 100000 in
set_option maxHeartbeats 0 in
theorem PySem.Challenge.cw_takeagain_k05_refused_holds : PySem.Challenge.rw_takeagain_k05_refused.Holds := by
  w_on; o_law; k_head; (case hw => w_witness2)
  k_fill
  refine TA.walk_ofWL (l := PySem.Challenge.rw_takeagain_k05_refused) (n := 63) (k := 9) (x := "_law_script") (nm := "is_whole_list") (CX := fun _ => L2.CX0) rfl (by decide) rfl ⟨rfl, by decide, by decide⟩ (by kernel_rfl) (fun w h Y => PySem.W.kIn_of Y) ?F (fun _ _ _ _ _ h => h)
  case F =>
    intro w mg fa h Y KX G hmg own
    refine' TA.all_mk KX G hmg ?a1 ?l1 ?c1 ?k1 ?a2 ?l2 ?c2 ?k2 ?a3 ?l3 ?c3 ?k3 ?a4 ?l4 ?c4 ?k4 ?a5 ?l5 ?c5 ?k5 ?a6 ?l6 ?c6 ?k6 ?a7 ?l7 ?c7 ?k7 ?a8 ?l8 ?c8 ?k8 ?a9 ?l9 ?c9 ?k9 ?a10 ?l10 ?c10 ?k10 ?a11 ?l11 ?c11 ?k11 ?a12 ?l12 ?c12 ?k12 ?a13 ?l13 ?c13 ?k13 ?a14 ?l14 ?c14 ?k14 ?a15 ?l15 ?c15 ?k15 ?a16 ?l16 ?c16 ?k16 ?a17 ?l17 ?c17 ?k17 ?a18 ?l18 ?c18 ?k18 ?a19 ?l19 ?c19 ?k19 ?a20 ?l20 ?c20 ?k20 ?a21 ?l21 ?c21 ?k21 ?a22 ?l22 ?c22 ?k22 ?a23 ?l23 ?c23 ?k23 ?a24 ?l24 ?c24 ?k24 ?a25 ?l25 ?c25 ?k25 ?a26 ?l26 ?c26 ?k26 ?a27 ?l27 ?c27 ?k27 ?a28 ?l28 ?c28 ?k28 ?a29 ?l29 ?c29 ?k29 ?a30 ?l30 ?c30 ?k30 ?a31 ?l31 ?c31 ?k31 ?a32 ?l32 ?c32 ?k32 ?z_type ?z_int ?z_list ?z_range ?z_reversed ?z_sum ?z_all ?z_len ?z_isinstance ?z_min ?z_ValueError ?y_GREATEST_FACTOR ?y_GREATEST_NUMBER ?aC0 ?aC1 ?aC2 ?aC3 ?aC4 ?aC5 ?aCT ?xC0 ?kC0 ?bC0 ?tC0 ?ga0 ?gg0 ?hd0 ?ha0 ?hm0 ?ex0 ?kv0 ?k_0_0 ?k_0_1 ?k_0_2 ?k_0_3 ?k_0_4 ?k_0_5 ?xC1 ?kC1 ?bC1 ?tC1 ?ga1 ?gg1 ?hd1 ?ha1 ?hm1 ?ex1 ?kv1 ?k_1_0 ?k_1_1 ?k_1_2 ?k_1_3 ?k_1_4 ?k_1_5 ?xC2 ?kC2 ?bC2 ?tC2 ?ga2 ?gg2 ?hd2 ?ha2 ?hm2 ?ex2 ?kv2 ?k_2_0 ?k_2_1 ?k_2_2 ?k_2_3 ?k_2_4 ?k_2_5 ?xC3 ?kC3 ?bC3 ?tC3 ?ga3 ?gg3 ?hd3 ?ha3 ?hm3 ?ex3 ?kv3 ?k_3_0 ?k_3_1 ?k_3_2 ?k_3_3 ?k_3_4 ?k_3_5 ?xC4 ?kC4 ?bC4 ?tC4 ?ga4 ?gg4 ?hd4 ?ha4 ?hm4 ?ex4 ?kv4 ?k_4_0 ?k_4_1 ?k_4_2 ?k_4_3 ?k_4_4 ?k_4_5 ?xC5 ?kC5 ?bC5 ?tC5 ?ga5 ?gg5 ?hd5 ?ha5 ?hm5 ?ex5 ?kv5 ?k_5_0 ?k_5_1 ?k_5_2 ?k_5_3 ?k_5_4 ?k_5_5 ?hn0 ?htk0 ?lc ?e11 ?nT ?hcd own
    (case aC0 => k_is)
    (case aC1 => k_is)
    (case aC2 => k_is)
    (case aC3 => k_is)
    (case aC4 => k_is)
    (case aC5 => k_is)
    (case aCT => k_is)
    (case xC0 => first | k_exc | k_is | kernel_rfl)
    (case kC0 => k_is)
    (case bC0 => first | k_is | kernel_rfl)
    (case tC0 => k_is)
    (case ga0 => first | k_is | kernel_rfl)
    (case gg0 => first | k_is | kernel_rfl)
    (case hd0 => first | k_is | kernel_rfl)
    (case ha0 => first | k_is | kernel_rfl)
    (case hm0 => first | k_is | kernel_rfl)
    (case ex0 => kernel_rfl)
    (case kv0 => kernel_rfl)
    (case k_0_0 => kernel_rfl)
    (case k_0_1 => kernel_rfl)
    (case k_0_2 => kernel_rfl)
    (case k_0_3 => kernel_rfl)
    (case k_0_4 => kernel_rfl)
    (case k_0_5 => kernel_rfl)
    (case xC1 => first | k_exc | k_is | kernel_rfl)
    (case kC1 => k_is)
    (case bC1 => first | k_is | kernel_rfl)
    (case tC1 => k_is)
    (case ga1 => first | k_is | kernel_rfl)
    (case gg1 => first | k_is | kernel_rfl)
    (case hd1 => first | k_is | kernel_rfl)
    (case ha1 => first | k_is | kernel_rfl)
    (case hm1 => first | k_is | kernel_rfl)
    (case ex1 => kernel_rfl)
    (case kv1 => kernel_rfl)
    (case k_1_0 => kernel_rfl)
    (case k_1_1 => kernel_rfl)
    (case k_1_2 => kernel_rfl)
    (case k_1_3 => kernel_rfl)
    (case k_1_4 => kernel_rfl)
    (case k_1_5 => kernel_rfl)
    (case xC2 => first | k_exc | k_is | kernel_rfl)
    (case kC2 => k_is)
    (case bC2 => first | k_is | kernel_rfl)
    (case tC2 => k_is)
    (case ga2 => first | k_is | kernel_rfl)
    (case gg2 => first | k_is | kernel_rfl)
    (case hd2 => first | k_is | kernel_rfl)
    (case ha2 => first | k_is | kernel_rfl)
    (case hm2 => first | k_is | kernel_rfl)
    (case ex2 => kernel_rfl)
    (case kv2 => kernel_rfl)
    (case k_2_0 => kernel_rfl)
    (case k_2_1 => kernel_rfl)
    (case k_2_2 => kernel_rfl)
    (case k_2_3 => kernel_rfl)
    (case k_2_4 => kernel_rfl)
    (case k_2_5 => kernel_rfl)
    (case xC3 => first | k_exc | k_is | kernel_rfl)
    (case kC3 => k_is)
    (case bC3 => first | k_is | kernel_rfl)
    (case tC3 => k_is)
    (case ga3 => first | k_is | kernel_rfl)
    (case gg3 => first | k_is | kernel_rfl)
    (case hd3 => first | k_is | kernel_rfl)
    (case ha3 => first | k_is | kernel_rfl)
    (case hm3 => first | k_is | kernel_rfl)
    (case ex3 => kernel_rfl)
    (case kv3 => kernel_rfl)
    (case k_3_0 => kernel_rfl)
    (case k_3_1 => kernel_rfl)
    (case k_3_2 => kernel_rfl)
    (case k_3_3 => kernel_rfl)
    (case k_3_4 => kernel_rfl)
    (case k_3_5 => kernel_rfl)
    (case xC4 => first | k_exc | k_is | kernel_rfl)
    (case kC4 => k_is)
    (case bC4 => first | k_is | kernel_rfl)
    (case tC4 => k_is)
    (case ga4 => first | k_is | kernel_rfl)
    (case gg4 => first | k_is | kernel_rfl)
    (case hd4 => first | k_is | kernel_rfl)
    (case ha4 => first | k_is | kernel_rfl)
    (case hm4 => first | k_is | kernel_rfl)
    (case ex4 => kernel_rfl)
    (case kv4 => kernel_rfl)
    (case k_4_0 => kernel_rfl)
    (case k_4_1 => kernel_rfl)
    (case k_4_2 => kernel_rfl)
    (case k_4_3 => kernel_rfl)
    (case k_4_4 => kernel_rfl)
    (case k_4_5 => kernel_rfl)
    (case xC5 => first | k_exc | k_is | kernel_rfl)
    (case kC5 => k_is)
    (case bC5 => first | k_is | kernel_rfl)
    (case tC5 => k_is)
    (case ga5 => first | k_is | kernel_rfl)
    (case gg5 => first | k_is | kernel_rfl)
    (case hd5 => first | k_is | kernel_rfl)
    (case ha5 => first | k_is | kernel_rfl)
    (case hm5 => first | k_is | kernel_rfl)
    (case ex5 => kernel_rfl)
    (case kv5 => kernel_rfl)
    (case k_5_0 => kernel_rfl)
    (case k_5_1 => kernel_rfl)
    (case k_5_2 => kernel_rfl)
    (case k_5_3 => kernel_rfl)
    (case k_5_4 => kernel_rfl)
    (case k_5_5 => kernel_rfl)
    (case hn0 => first | k_is | kernel_rfl)
    (case htk0 => first | k_is | kernel_rfl)
    (case a1 => k_is); (case l1 => k_is); (case c1 => k_is); (case k1 => k_is)
    (case a2 => k_is); (case l2 => k_is); (case c2 => k_is); (case k2 => k_is)
    (case a3 => k_is); (case l3 => k_is); (case c3 => k_is); (case k3 => k_is)
    (case a4 => k_is); (case l4 => k_is); (case c4 => k_is); (case k4 => k_is)
    (case a5 => k_is); (case l5 => k_is); (case c5 => k_is); (case k5 => k_is)
    (case a6 => k_is); (case l6 => k_is); (case c6 => k_is); (case k6 => k_is)
    (case a7 => k_is); (case l7 => k_is); (case c7 => k_is); (case k7 => k_is)
    (case a8 => k_is); (case l8 => k_is); (case c8 => k_is); (case k8 => k_is)
    (case a9 => k_is); (case l9 => k_is); (case c9 => k_is); (case k9 => k_is)
    (case a10 => k_is); (case l10 => k_is); (case c10 => k_is); (case k10 => k_is)
    (case a11 => k_is); (case l11 => k_is); (case c11 => k_is); (case k11 => k_is)
    (case a12 => k_is); (case l12 => k_is); (case c12 => k_is); (case k12 => k_is)
    (case a13 => k_is); (case l13 => k_is); (case c13 => k_is); (case k13 => k_is)
    (case a14 => k_is); (case l14 => k_is); (case c14 => k_is); (case k14 => k_is)
    (case a15 => k_is); (case l15 => k_is); (case c15 => k_is); (case k15 => k_is)
    (case a16 => k_is); (case l16 => k_is); (case c16 => k_is); (case k16 => k_is)
    (case a17 => k_is); (case l17 => k_is); (case c17 => k_is); (case k17 => k_is)
    (case a18 => k_is); (case l18 => k_is); (case c18 => k_is); (case k18 => k_is)
    (case a19 => k_is); (case l19 => k_is); (case c19 => k_is); (case k19 => k_is)
    (case a20 => k_is); (case l20 => k_is); (case c20 => k_is); (case k20 => k_is)
    (case a21 => k_is); (case l21 => k_is); (case c21 => k_is); (case k21 => k_is)
    (case a22 => k_is); (case l22 => k_is); (case c22 => k_is); (case k22 => k_is)
    (case a23 => k_is); (case l23 => k_is); (case c23 => k_is); (case k23 => k_is)
    (case a24 => k_is); (case l24 => k_is); (case c24 => k_is); (case k24 => k_is)
    (case a25 => k_is); (case l25 => k_is); (case c25 => k_is); (case k25 => k_is)
    (case a26 => k_is); (case l26 => k_is); (case c26 => k_is); (case k26 => k_is)
    (case a27 => k_is); (case l27 => k_is); (case c27 => k_is); (case k27 => k_is)
    (case a28 => k_is); (case l28 => k_is); (case c28 => k_is); (case k28 => k_is)
    (case a29 => k_is); (case l29 => k_is); (case c29 => k_is); (case k29 => k_is)
    (case a30 => k_is); (case l30 => k_is); (case c30 => k_is); (case k30 => k_is)
    (case a31 => k_is); (case l31 => k_is); (case c31 => k_is); (case k31 => k_is)
    (case a32 => k_is); (case l32 => k_is); (case c32 => k_is); (case k32 => k_is)
    (case z_type => k_is)
    (case z_int => k_is)
    (case z_list => k_is)
    (case z_range => k_is)
    (case z_reversed => k_is)
    (case z_sum => k_is)
    (case z_all => k_is)
    (case z_len => k_is)
    (case z_isinstance => k_is)
    (case z_min => k_is)
    (case z_ValueError => k_is)
    (case y_GREATEST_FACTOR => k_is)
    (case y_GREATEST_NUMBER => k_is)
    (case lc => k_is); (case e11 => rfl); (case nT => kernel_rfl); (case hcd => kernel_rfl)
