import PyProof.Rows.All
import Wide.All
import OpenK.AllK
import Wide.FinOn
import PyFlatLaws
import Open.SpecLaws
import KE.OsGo
import HandS.ForSpec
import HandS.Dict
import HandS.Iter
import HandS.More
import HandS.Text
import HandS.WordsDict
import HandS.CallLocal
import HandS.Comp
import HandS.Walk
import HandS.WideBits
import HandS.SortInts
import HandS.Conv
import PySem.Challenge.RW_keptapart_s01_answers
set_option Elab.async false
set_option linter.all false
set_option maxRecDepth 100000
set_option maxHeartbeats 4000000
-- KaBits
namespace Ka
open Kh411
/-! ### bits -/
theorem has_tb (s i : Nat) : has s i = s.testBit i := by
  unfold has
  rw [Nat.testBit_eq_decide_div_mod_eq]
  by_cases h : s / 2 ^ i % 2 = 1 <;> simp [h]
theorem each_succ (m : Nat) (f : Bool → Bool → Bool) (x y : Nat) : each (m + 1) f x y = each m f x y + (if f (has x m) (has y m) then 2 ^ m else 0) := by
  unfold each
  rw [List.range_succ, List.foldl_append]
  rfl
theorem each_lt (m : Nat) (f : Bool → Bool → Bool) (x y : Nat) : each m f x y < 2 ^ m := by
  induction m with
  | zero => simp [each]
  | succ m ih =>
    rw [each_succ, Nat.pow_succ]
    split <;> omega
theorem each_tb (m : Nat) (f : Bool → Bool → Bool) (x y i : Nat) : (each m f x y).testBit i = (decide (i < m) && f (x.testBit i) (y.testBit i)) := by
  induction m with
  | zero => simp [each]
  | succ m ih =>
    rw [each_succ, has_tb, has_tb]
    have hl := each_lt m f x y
    rcases Nat.lt_trichotomy i m with h | h | h
    · have e1 : decide (i < m + 1) = true := decide_eq_true (by omega)
      have e2 : decide (i < m) = true := decide_eq_true h
      rw [e1]
      rw [e2] at ih
      rw [← ih]
      split
      · rw [Nat.add_comm, Nat.testBit_two_pow_add_gt h]
      · rfl
    · subst h
      have e1 : decide (i < i + 1) = true := decide_eq_true (by omega)
      rw [e1, Bool.true_and]
      split
      · next h => rw [h, Nat.add_comm, Nat.testBit_two_pow_add_eq, Nat.testBit_lt_two_pow hl]; rfl
      · next h =>
        rw [Nat.add_zero, Nat.testBit_lt_two_pow hl]
        simpa using h
    · have e1 : decide (i < m + 1) = false := decide_eq_false (by omega)
      rw [e1, Bool.false_and]
      apply Nat.testBit_lt_two_pow
      have : 2 ^ (m + 1) ≤ 2 ^ i := Nat.pow_le_pow_right (by decide) h
      rw [Nat.pow_succ] at this
      split <;> omega
theorem tb_lt {m x i : Nat} (h : x < 2 ^ m) (hi : m ≤ i) : x.testBit i = false :=
  Nat.testBit_lt_two_pow (Nat.lt_of_lt_of_le h (Nat.pow_le_pow_right (by decide) hi))
theorem meet_and {m x y : Nat} (hx : x < 2 ^ m) : meet m x y = x &&& y := by
  refine Nat.eq_of_testBit_eq fun i => ?_
  unfold meet
  rw [each_tb, Nat.testBit_and]
  by_cases h : i < m
  · simp [h]
  · rw [tb_lt hx (by omega)]
    simp [h]
theorem join_or {m x y : Nat} (hx : x < 2 ^ m) (hy : y < 2 ^ m) : join m x y = x ||| y := by
  refine Nat.eq_of_testBit_eq fun i => ?_
  unfold join
  rw [each_tb, Nat.testBit_or]
  by_cases h : i < m
  · simp [h]
  · rw [tb_lt hx (by omega), tb_lt hy (by omega)]
    simp
theorem flips_xor {m x y : Nat} (hx : x < 2 ^ m) (hy : y < 2 ^ m) : flips m x y = x ^^^ y := by
  refine Nat.eq_of_testBit_eq fun i => ?_
  unfold flips
  rw [each_tb, Nat.testBit_xor]
  by_cases h : i < m
  · simp [h]
  · rw [tb_lt hx (by omega), tb_lt hy (by omega)]
    simp
theorem less_xor {m x y : Nat} (hx : x < 2 ^ m) : less m x y = x ^^^ (x &&& y) := by
  refine Nat.eq_of_testBit_eq fun i => ?_
  unfold less
  rw [each_tb, Nat.testBit_xor, Nat.testBit_and]
  by_cases h : i < m
  · cases x.testBit i <;> cases y.testBit i <;> simp [h]
  · rw [tb_lt hx (by omega)]
    simp
theorem meet_lt (m x y : Nat) : meet m x y < 2 ^ m := each_lt _ _ _ _
theorem join_lt (m x y : Nat) : join m x y < 2 ^ m := each_lt _ _ _ _
theorem flips_lt (m x y : Nat) : flips m x y < 2 ^ m := each_lt _ _ _ _
theorem less_lt (m x y : Nat) : less m x y < 2 ^ m := each_lt _ _ _ _
theorem after_lt (a : Abs) (d : Deed) (s : Nat) : after a d s < 2 ^ a.m := join_lt _ _ _
theorem together_lt (m s : Nat) (l : List Nat) : together m s l < 2 ^ m := flips_lt _ _ _
/-- all that was changed by the copies of a row -/
def chg (s : Nat) (l : List Nat) : Nat := l.foldl (fun t y => t ||| (s ^^^ y)) 0
theorem xor_lt {m x y : Nat} (hx : x < 2 ^ m) (hy : y < 2 ^ m) : x ^^^ y < 2 ^ m := Nat.xor_lt_two_pow hx hy
theorem or_lt {m x y : Nat} (hx : x < 2 ^ m) (hy : y < 2 ^ m) : x ||| y < 2 ^ m := Nat.or_lt_two_pow hx hy
theorem chg_from {m s : Nat} (hs : s < 2 ^ m) : ∀ (l : List Nat) (t : Nat), t < 2 ^ m → (∀ y ∈ l, y < 2 ^ m) →
    l.foldl (fun t y => join m t (flips m s y)) t = l.foldl (fun t y => t ||| (s ^^^ y)) t ∧ l.foldl (fun t y => t ||| (s ^^^ y)) t < 2 ^ m
  | [], t, ht, _ => ⟨rfl, ht⟩
  | y :: l, t, ht, h => by
    have hy := h y (List.mem_cons_self)
    have e : join m t (flips m s y) = t ||| (s ^^^ y) := by rw [flips_xor hs hy, join_or ht (xor_lt hs hy)]
    show l.foldl _ (join m t (flips m s y)) = l.foldl _ (t ||| (s ^^^ y)) ∧ l.foldl _ (t ||| (s ^^^ y)) < _
    rw [e]
    exact chg_from hs l _ (or_lt ht (xor_lt hs hy)) fun z hz => h z (List.mem_cons_of_mem _ hz)
theorem chg_lt {m s : Nat} {l : List Nat} (hs : s < 2 ^ m) (h : ∀ y ∈ l, y < 2 ^ m) : chg s l < 2 ^ m := (chg_from hs l 0 (Nat.two_pow_pos m) h).2
theorem together_eq {m s : Nat} {l : List Nat} (hs : s < 2 ^ m) (h : ∀ y ∈ l, y < 2 ^ m) : together m s l = s ^^^ chg s l := by
  have q := chg_from hs l 0 (Nat.two_pow_pos m) h
  unfold together
  rw [q.1]
  exact flips_xor hs q.2
end Ka
-- KaReach
namespace Ka
open Kh411
/-! ### rising lists -/
def Rising (l : List Nat) : Prop := l.Pairwise (· < ·)
theorem rising_ext : ∀ {l r : List Nat}, Rising l → Rising r → (∀ x, x ∈ l ↔ x ∈ r) → l = r
  | [], [], _, _, _ => rfl
  | [], y :: r, _, _, h => absurd ((h y).2 List.mem_cons_self) (by simp)
  | x :: l, [], _, _, h => absurd ((h x).1 List.mem_cons_self) (by simp)
  | x :: l, y :: r, hl, hr, h => by
    have hl' := List.pairwise_cons.mp hl
    have hr' := List.pairwise_cons.mp hr
    have exy : x = y := by
      rcases List.mem_cons.mp ((h x).1 List.mem_cons_self) with e | e
      · exact e
      · rcases List.mem_cons.mp ((h y).2 List.mem_cons_self) with e2 | e2
        · exact e2.symm
        · have a := hr'.1 x e
          have b := hl'.1 y e2
          omega
    subst exy
    congr 1
    refine rising_ext hl'.2 hr'.2 fun z => ⟨fun hz => ?_, fun hz => ?_⟩
    · rcases List.mem_cons.mp ((h z).1 (List.mem_cons_of_mem _ hz)) with e | e
      · have := hl'.1 z hz
        omega
      · exact e
    · rcases List.mem_cons.mp ((h z).2 (List.mem_cons_of_mem _ hz)) with e | e
      · have := hr'.1 z hz
        omega
      · exact e
theorem rising_range (n : Nat) : Rising (List.range n) := List.pairwise_lt_range
theorem rising_filter {l : List Nat} (p : Nat → Bool) (h : Rising l) : Rising (l.filter p) := List.Pairwise.filter p h
/-! ### to what a copy may come -/
inductive Rch (a : Abs) (s : Nat) : Nat → Prop where
  | here : Rch a s s
  | go {t u : Nat} {d : Deed} : Rch a s t → d ∈ a.deeds → done a t d = some u → Rch a s u
theorem done_lt {a : Abs} {t u : Nat} {d : Deed} (h : done a t d = some u) : u < 2 ^ a.m := by
  unfold done at h
  split at h
  · cases h
    exact after_lt _ _ _
  · cases h
theorem Rch.lt {a : Abs} {s t : Nat} (hs : s < 2 ^ a.m) (h : Rch a s t) : t < 2 ^ a.m := by
  cases h with
  | here => exact hs
  | go _ _ e => exact done_lt e
theorem mem_states {a : Abs} {t : Nat} : t ∈ states a ↔ t < 2 ^ a.m := List.mem_range
theorem mem_next {a : Abs} {l : List Nat} {t : Nat} : t ∈ next a l ↔ t < 2 ^ a.m ∧ (t ∈ l ∨ ∃ s ∈ l, ∃ d ∈ a.deeds, done a s d = some t) := by
  unfold next
  rw [List.mem_filter, mem_states]
  simp only [Bool.or_eq_true, List.contains_iff_mem, List.any_eq_true, beq_iff_eq]
def iter (a : Abs) (s : Nat) : Nat → List Nat
  | 0 => [s]
  | k + 1 => next a (iter a s k)
theorem closing_iter (a : Abs) (s : Nat) : ∀ (k j : Nat), closing k a (iter a s j) = iter a s (j + k)
  | 0, j => rfl
  | k + 1, j => by
    show closing k a (iter a s (j + 1)) = _
    rw [closing_iter a s k (j + 1)]
    congr 1
    omega
theorem reach_iter (a : Abs) (s : Nat) : reach a s = iter a s (2 ^ a.m) := by
  have := closing_iter a s (2 ^ a.m) 0
  rw [Nat.zero_add] at this
  exact this
theorem iter_lt {a : Abs} {s : Nat} (hs : s < 2 ^ a.m) : ∀ {k t : Nat}, t ∈ iter a s k → t < 2 ^ a.m
  | 0, t, h => by
    rw [List.mem_singleton.mp h]
    exact hs
  | k + 1, t, h => (mem_next.mp h).1
theorem iter_rch {a : Abs} {s : Nat} : ∀ {k t : Nat}, t ∈ iter a s k → Rch a s t
  | 0, t, h => by
    rw [List.mem_singleton.mp h]
    exact .here
  | k + 1, t, h => by
    rcases (mem_next.mp h).2 with h | ⟨u, hu, d, hd, e⟩
    · exact iter_rch h
    · exact .go (iter_rch hu) hd e
theorem iter_mono {a : Abs} {s k t : Nat} (hs : s < 2 ^ a.m) (h : t ∈ iter a s k) : t ∈ iter a s (k + 1) := mem_next.mpr ⟨iter_lt hs h, .inl h⟩
def Shut (a : Abs) (l : List Nat) : Prop := ∀ t ∈ l, ∀ d ∈ a.deeds, ∀ u, done a t d = some u → u ∈ l
theorem iter_rising {a : Abs} {s : Nat} : ∀ k, Rising (iter a s k)
  | 0 => List.pairwise_singleton _ _
  | _ + 1 => rising_filter _ (rising_range _)
theorem rising_len : ∀ {n : Nat} {l : List Nat}, Rising l → (∀ x ∈ l, x < n) → l.length ≤ n := by
  intro n l h hb
  have e : l = (List.range n).filter fun x => l.contains x := by
    refine rising_ext h (rising_filter _ (rising_range n)) fun x => ?_
    rw [List.mem_filter, List.mem_range, List.contains_iff_mem]
    exact ⟨fun hx => ⟨hb x hx, hx⟩, fun hx => hx.2⟩
  rw [e]
  exact Nat.le_trans (List.length_filter_le _ _) (by rw [List.length_range]; exact Nat.le_refl _)
theorem rising_len_lt {l r : List Nat} (hl : Rising l) (hr : Rising r) (h : ∀ x ∈ l, x ∈ r) {y : Nat} (hy : y ∈ r) (hn : y ∉ l) : l.length < r.length := by
  have e : l = r.filter fun x => l.contains x := by
    refine rising_ext hl (rising_filter _ hr) fun x => ?_
    rw [List.mem_filter, List.contains_iff_mem]
    exact ⟨fun hx => ⟨h x hx, hx⟩, fun hx => hx.2⟩
  rw [e]
  apply List.length_filter_lt_length_iff_exists.mpr
  exact ⟨y, hy, by rw [List.contains_iff_mem]; exact hn⟩
theorem iter_shut_or {a : Abs} {s : Nat} (hs : s < 2 ^ a.m) : ∀ k, Shut a (iter a s k) ∨ k < (iter a s k).length
  | 0 => .inr (by show 0 < 1; decide)
  | k + 1 => by
    by_cases c : ∀ x, x ∈ iter a s (k + 1) → x ∈ iter a s k
    · left
      intro t ht d hd u e
      exact mem_next.mpr ⟨done_lt e, .inr ⟨t, c t ht, d, hd, e⟩⟩
    · right
      have ⟨y, hy⟩ := Classical.not_forall.mp c
      have ⟨hy, hn⟩ := Classical.not_imp.mp hy
      rcases iter_shut_or hs k with q | q
      · rcases (mem_next.mp hy).2 with h | ⟨u, hu, d, hd, e⟩
        · exact absurd h hn
        · exact absurd (q u hu d hd y e) hn
      · have := rising_len_lt (iter_rising k) (iter_rising (k + 1)) (fun x hx => iter_mono hs hx) hy hn
        omega
theorem reach_shut {a : Abs} {s : Nat} (hs : s < 2 ^ a.m) : Shut a (reach a s) := by
  rw [reach_iter]
  rcases iter_shut_or hs (2 ^ a.m) with h | h
  · exact h
  · have := rising_len (iter_rising (a := a) (s := s) (2 ^ a.m)) (fun x hx => iter_lt hs hx)
    omega
theorem reach_here {a : Abs} {s : Nat} (hs : s < 2 ^ a.m) : s ∈ reach a s := by
  rw [reach_iter]
  generalize 2 ^ a.m = k
  induction k with
  | zero => exact List.mem_singleton.mpr rfl
  | succ k ih => exact iter_mono hs ih
theorem mem_reach {a : Abs} {s t : Nat} (hs : s < 2 ^ a.m) : t ∈ reach a s ↔ Rch a s t := by
  constructor
  · intro h
    rw [reach_iter] at h
    exact iter_rch h
  · intro h
    induction h with
    | here => exact reach_here hs
    | go _ hd e ih => exact reach_shut hs _ ih _ hd _ e
theorem reach_rising (a : Abs) (s : Nat) : Rising (reach a s) := by
  rw [reach_iter]
  exact iter_rising _
theorem reach_lt {a : Abs} {s t : Nat} (hs : s < 2 ^ a.m) (h : t ∈ reach a s) : t < 2 ^ a.m := ((mem_reach hs).mp h).lt hs
/-- a rising list of states that holds s, is shut, and holds only what may be come to, is reach -/
theorem reach_unique {a : Abs} {s : Nat} (hs : s < 2 ^ a.m) {l : List Nat} (hr : Rising l) (h0 : s ∈ l) (hS : Shut a l) (hR : ∀ t ∈ l, Rch a s t) : l = reach a s := by
  refine rising_ext hr (reach_rising a s) fun x => ⟨fun hx => (mem_reach hs).mpr (hR x hx), fun hx => ?_⟩
  have := (mem_reach hs).mp hx
  clear hx
  induction this with
  | here => exact h0
  | go _ hd e ih => exact hS _ ih _ hd _ e
end Ka
-- KaRows
namespace Ka
open Kh411
/-! ### the order of rows -/
def lexlt : List Nat → List Nat → Prop
  | x :: r, y :: t => x < y ∨ (x = y ∧ lexlt r t)
  | _, _ => False
theorem lexlt_irrefl : ∀ r, ¬ lexlt r r
  | [], h => h
  | x :: r, h => by
    rcases h with h | h
    · omega
    · exact lexlt_irrefl r h.2
theorem lexlt_trans : ∀ {r t u : List Nat}, lexlt r t → lexlt t u → lexlt r u
  | x :: r, y :: t, z :: u, h1, h2 => by
    rcases h1 with h1 | ⟨e1, h1⟩
    · rcases h2 with h2 | ⟨e2, h2⟩
      · exact .inl (by omega)
      · exact .inl (by omega)
    · rcases h2 with h2 | ⟨e2, h2⟩
      · exact .inl (by omega)
      · exact .inr ⟨by omega, lexlt_trans h1 h2⟩
  | [], _, _, h, _ => h.elim
  | _ :: _, [], _, h, _ => h.elim
  | _ :: _, _ :: _, [], _, h => h.elim
theorem lexlt_asymm {r t : List Nat} (h : lexlt r t) (h2 : lexlt t r) : False := lexlt_irrefl _ (lexlt_trans h h2)
theorem lexlt_total : ∀ {r t : List Nat}, r.length = t.length → r = t ∨ lexlt r t ∨ lexlt t r
  | [], [], _ => .inl rfl
  | [], _ :: _, h => by cases h
  | _ :: _, [], h => by cases h
  | x :: r, y :: t, h => by
    rcases Nat.lt_trichotomy x y with c | c | c
    · exact .inr (.inl (.inl c))
    · rcases lexlt_total (r := r) (t := t) (Nat.succ.inj h) with e | e | e
      · exact .inl (by rw [c, e])
      · exact .inr (.inl (.inr ⟨c, e⟩))
      · exact .inr (.inr (.inr ⟨c.symm, e⟩))
    · exact .inr (.inr (.inl c))
theorem lexlt_app : ∀ {r t : List Nat} (u v : List Nat), r.length = t.length → lexlt r t → lexlt (r ++ u) (t ++ v)
  | x :: r, y :: t, u, v, hl, h => by
    rcases h with h | ⟨e, h⟩
    · exact .inl h
    · exact .inr ⟨e, lexlt_app u v (Nat.succ.inj hl) h⟩
  | [], _, _, _, _, h => h.elim
  | _ :: _, [], _, _, _, h => h.elim
theorem lexlt_snoc : ∀ (r : List Nat) {y z : Nat}, y < z → lexlt (r ++ [y]) (r ++ [z])
  | [], _, _, h => .inl h
  | _ :: r, _, _, h => .inr ⟨rfl, lexlt_snoc r h⟩
/-! ### what is found first -/
theorem find_first {α : Type} {R : α → α → Prop} (asy : ∀ x y, R x y → R y x → False) {P : α → Bool} : ∀ {L : List α}, L.Pairwise R → ∀ r, L.find? P = some r ↔ r ∈ L ∧ P r = true ∧ ∀ t ∈ L, P t = true → t = r ∨ R r t
  | [], _, r => by simp
  | x :: L, h, r => by
    have h' := List.pairwise_cons.mp h
    by_cases c : P x = true
    · rw [List.find?_cons_of_pos c]
      constructor
      · intro e
        cases e
        refine ⟨List.mem_cons_self, c, fun t ht _ => ?_⟩
        rcases List.mem_cons.mp ht with e | e
        · exact .inl e
        · exact .inr (h'.1 t e)
      · rintro ⟨hm, _, q⟩
        rcases List.mem_cons.mp hm with e | e
        · rw [e]
        · rcases q x List.mem_cons_self c with z | z
          · rw [z]
          · exact (asy _ _ z (h'.1 r e)).elim
    · rw [List.find?_cons_of_neg c, find_first asy h'.2 r]
      constructor
      · rintro ⟨hm, hp, q⟩
        refine ⟨List.mem_cons_of_mem _ hm, hp, fun t ht pt => ?_⟩
        rcases List.mem_cons.mp ht with e | e
        · rw [e] at pt
          exact absurd pt c
        · exact q t e pt
      · rintro ⟨hm, hp, q⟩
        rcases List.mem_cons.mp hm with e | e
        · rw [e] at hp
          exact absurd hp c
        · exact ⟨e, hp, fun t ht pt => q t (List.mem_cons_of_mem _ ht) pt⟩
/-! ### rows of k -/
structure Tup (l : List Nat) (k : Nat) (r : List Nat) : Prop where
  len : r.length = k
  mem : ∀ y ∈ r, y ∈ l
theorem mem_rows (l : List Nat) : ∀ (k f : Nat) (r : List Nat), r ∈ rows l k f ↔ Tup l k r ∧ r.Pairwise (· ≤ ·) ∧ ∀ y ∈ r, f ≤ y
  | 0, f, r => by
    show r ∈ [[]] ↔ _
    rw [List.mem_singleton]
    constructor
    · rintro rfl
      exact ⟨⟨rfl, by simp⟩, List.Pairwise.nil, by simp⟩
    · rintro ⟨h, _⟩
      exact List.eq_nil_of_length_eq_zero h.len
  | k + 1, f, r => by
    show r ∈ (l.filter fun x => decide (f ≤ x)).flatMap (fun x => (rows l k x).map fun r => x :: r) ↔ _
    simp only [List.mem_flatMap, List.mem_filter, List.mem_map, decide_eq_true_eq]
    constructor
    · rintro ⟨x, ⟨hx, hf⟩, t, ht, rfl⟩
      have q := (mem_rows l k x t).mp ht
      refine ⟨⟨by rw [List.length_cons, q.1.len], fun y hy => ?_⟩, List.pairwise_cons.mpr ⟨q.2.2, q.2.1⟩, fun y hy => ?_⟩
      · rcases List.mem_cons.mp hy with e | e
        · rw [e]; exact hx
        · exact q.1.mem y e
      · rcases List.mem_cons.mp hy with e | e
        · rw [e]; exact hf
        · exact Nat.le_trans hf (q.2.2 y e)
    · rintro ⟨⟨hl, hm⟩, hp, hf⟩
      match r, hl with
      | x :: t, hl =>
        have hp' := List.pairwise_cons.mp hp
        refine ⟨x, ⟨hm x List.mem_cons_self, hf x List.mem_cons_self⟩, t, (mem_rows l k x t).mpr ⟨⟨Nat.succ.inj hl, fun y hy => hm y (List.mem_cons_of_mem _ hy)⟩, hp'.2, hp'.1⟩, rfl⟩
theorem rows_sorted {l : List Nat} (hl : Rising l) : ∀ (k f : Nat), (rows l k f).Pairwise lexlt
  | 0, f => List.pairwise_singleton _ _
  | k + 1, f => by
    show ((l.filter fun x => decide (f ≤ x)).flatMap (fun x => (rows l k x).map fun r => x :: r)).Pairwise lexlt
    rw [List.pairwise_flatMap]
    constructor
    · intro x _
      rw [List.pairwise_map]
      exact (rows_sorted hl k x).imp fun h => .inr ⟨rfl, h⟩
    · refine (rising_filter _ hl).imp fun {x y} h r hr t ht => ?_
      obtain ⟨r', _, rfl⟩ := List.mem_map.mp hr
      obtain ⟨t', _, rfl⟩ := List.mem_map.mp ht
      exact .inl h
theorem swap_less : ∀ (r : List Nat), ¬ r.Pairwise (· ≤ ·) → ∃ t, t.Perm r ∧ lexlt t r
  | [], h => absurd List.Pairwise.nil h
  | x :: r, h => by
    by_cases c : r.Pairwise (· ≤ ·)
    · match r, c, h with
      | [], _, h => exact absurd (List.pairwise_singleton _ _) h
      | y :: u, c, h =>
        by_cases d : x ≤ y
        · refine absurd (List.pairwise_cons.mpr ⟨fun z hz => ?_, c⟩) h
          rcases List.mem_cons.mp hz with e | e
          · omega
          · have := (List.pairwise_cons.mp c).1 z e
            omega
        · exact ⟨y :: x :: u, List.Perm.swap x y u, .inl (by omega)⟩
    · obtain ⟨t, hp, hl⟩ := swap_less r c
      exact ⟨x :: t, hp.cons x, .inr ⟨rfl, hl⟩⟩
/-! ### what copies change does not ask for the order -/
theorem tb_fold (s i : Nat) : ∀ (l : List Nat) (t : Nat), (l.foldl (fun t y => t ||| (s ^^^ y)) t).testBit i = (t.testBit i || l.any fun y => (s ^^^ y).testBit i)
  | [], t => by simp
  | y :: l, t => by
    rw [List.foldl_cons, tb_fold s i l, Nat.testBit_or, List.any_cons, Bool.or_assoc]
theorem chg_tb (s i : Nat) (l : List Nat) : (chg s l).testBit i = l.any fun y => (s ^^^ y).testBit i := by
  unfold chg
  rw [tb_fold, Nat.zero_testBit, Bool.false_or]
theorem chg_perm {s : Nat} {l r : List Nat} (h : l.Perm r) : chg s l = chg s r := by
  refine Nat.eq_of_testBit_eq fun i => ?_
  rw [chg_tb, chg_tb]
  exact h.any_eq
theorem chg_snoc (s : Nat) (l : List Nat) (y : Nat) : chg s (l ++ [y]) = chg s l ||| (s ^^^ y) := by
  unfold chg
  rw [List.foldl_append]
  rfl
/-- a row that breaks the rule from s -/
def Bad (a : Abs) (s : Nat) (r : List Nat) : Prop := let_ a (s ^^^ chg s r) = false
theorem Bad.perm {a : Abs} {s : Nat} {r t : List Nat} (h : t.Perm r) (b : Bad a s r) : Bad a s t := by
  unfold Bad at *
  rw [chg_perm h]
  exact b
theorem Tup.perm {l : List Nat} {k : Nat} {r t : List Nat} (h : t.Perm r) (b : Tup l k r) : Tup l k t :=
  ⟨h.length_eq.trans b.len, fun y hy => b.mem y (h.mem_iff.mp hy)⟩
/-- the first row of k that breaks the rule -/
structure First (a : Abs) (s : Nat) (l : List Nat) (k : Nat) (r : List Nat) : Prop where
  tup : Tup l k r
  bad : Bad a s r
  least : ∀ t, Tup l k t → Bad a s t → t = r ∨ lexlt r t
theorem First.sorted {a : Abs} {s : Nat} {l : List Nat} {k : Nat} {r : List Nat} (h : First a s l k r) : r.Pairwise (· ≤ ·) := by
  refine Classical.byContradiction fun c => ?_
  obtain ⟨t, hp, hl⟩ := swap_less r c
  rcases h.least t (h.tup.perm hp) (h.bad.perm hp) with e | e
  · rw [e] at hl
    exact lexlt_irrefl _ hl
  · exact lexlt_asymm hl e
theorem First.one {a : Abs} {s : Nat} {l : List Nat} {k : Nat} {r t : List Nat} (h : First a s l k r) (g : First a s l k t) : r = t := by
  rcases h.least t g.tup g.bad with e | e
  · exact e.symm
  · rcases g.least r h.tup h.bad with e2 | e2
    · exact e2
    · exact (lexlt_asymm e e2).elim
theorem not_let_iff {a : Abs} {m s : Nat} {r : List Nat} (hm : a.m = m) (hs : s < 2 ^ m) (hr : ∀ y ∈ r, y < 2 ^ m) : (!let_ a (together a.m s r)) = true ↔ Bad a s r := by
  subst hm
  unfold Bad
  rw [together_eq hs hr]
  simp
theorem tup_sort {l : List Nat} {k : Nat} : ∀ {r : List Nat}, Tup l k r → ∃ t : List Nat, t.Perm r ∧ t.Pairwise (· ≤ ·) := by
  intro r _
  refine ⟨r.mergeSort (fun x y => decide (x ≤ y)), List.mergeSort_perm _ _, ?_⟩
  have := List.pairwise_mergeSort (le := fun x y => decide (x ≤ y)) (fun a b c h1 h2 => by simp only [decide_eq_true_eq] at *; omega) (fun a b => by simp only [Bool.or_eq_true, decide_eq_true_eq]; omega) r
  exact this.imp fun h => by simpa using h
theorem find_rows {a : Abs} {s : Nat} {l : List Nat} (hl : Rising l) (hs : s < 2 ^ a.m) (hb : ∀ y ∈ l, y < 2 ^ a.m) (k : Nat) (r : List Nat) :
    ((rows l k 0).find? fun l => !let_ a (together a.m s l)) = some r ↔ First a s l k r := by
  rw [find_first (R := lexlt) (fun x y => lexlt_asymm) (rows_sorted hl k 0) r]
  constructor
  · rintro ⟨hm, hp, q⟩
    have tm := (mem_rows l k 0 r).mp hm
    refine ⟨tm.1, (not_let_iff rfl hs fun y hy => hb y (tm.1.mem y hy)).mp hp, fun t ht bt => ?_⟩
    by_cases c : t.Pairwise (· ≤ ·)
    · exact q t ((mem_rows l k 0 t).mpr ⟨ht, c, fun _ _ => Nat.zero_le _⟩) ((not_let_iff rfl hs fun y hy => hb y (ht.mem y hy)).mpr bt)
    · right
      -- the row put in order comes ahead of it
      obtain ⟨u, up, us⟩ := tup_sort ht
      have h1 := q u ((mem_rows l k 0 u).mpr ⟨ht.perm up, us, fun _ _ => Nat.zero_le _⟩) ((not_let_iff rfl hs fun y hy => hb y (ht.mem y (up.mem_iff.mp hy))).mpr (bt.perm up))
      have h2 : lexlt u t := by
        rcases lexlt_total (r := u) (t := t) up.length_eq with e | e | e
        · rw [e] at us
          exact absurd us c
        · exact e
        · exfalso
          exact sort_least us up e
      rcases h1 with e | e
      · rw [← e]
        exact h2
      · exact lexlt_trans e h2
  · intro h
    refine ⟨(mem_rows l k 0 r).mpr ⟨h.tup, h.sorted, fun _ _ => Nat.zero_le _⟩, (not_let_iff rfl hs fun y hy => hb y (h.tup.mem y hy)).mpr h.bad, fun t ht pt => ?_⟩
    have tm := (mem_rows l k 0 t).mp ht
    exact h.least t tm.1 ((not_let_iff rfl hs fun y hy => hb y (tm.1.mem y hy)).mp pt)
where
  sort_least : ∀ {u t : List Nat}, u.Pairwise (· ≤ ·) → u.Perm t → lexlt t u → False
    | [], t, _, hp, h => by
      cases t with
      | nil => exact h
      | cons _ _ => exact h
    | x :: u, [], _, _, h => h
    | x :: u, y :: t, hs, hp, h => by
      have hs' := List.pairwise_cons.mp hs
      have hx : x ≤ y := by
        rcases List.mem_cons.mp (hp.symm.mem_iff.mp (List.mem_cons_self (a := y) (l := t))) with e | e
        · omega
        · exact hs'.1 y e
      rcases h with h | ⟨e, h⟩
      · omega
      · subst e
        exact sort_least hs'.2 ((List.perm_cons y).mp hp) h
theorem brokenAt_some {a : Abs} {k s : Nat} (hs : s < 2 ^ a.m) (r : List Nat) : brokenAt a k s = some r ↔ let_ a s = true ∧ First a s (reach a s) k r := by
  unfold brokenAt
  by_cases c : let_ a s = true
  · rw [if_pos c, find_rows (reach_rising a s) hs (fun y hy => reach_lt hs hy)]
    exact ⟨fun h => ⟨c, h⟩, fun h => h.2⟩
  · rw [if_neg c]
    simp [c]
theorem brokenAt_none {a : Abs} {k s : Nat} (hs : s < 2 ^ a.m) : brokenAt a k s = none ↔ (let_ a s = true → ∀ r, Tup (reach a s) k r → ¬ Bad a s r) := by
  unfold brokenAt
  by_cases c : let_ a s = true
  · rw [if_pos c, List.find?_eq_none]
    constructor
    · intro h _ r hr b
      obtain ⟨u, up, us⟩ := tup_sort hr
      have q := h u ((mem_rows _ k 0 u).mpr ⟨hr.perm up, us, fun _ _ => Nat.zero_le _⟩)
      exact q ((not_let_iff rfl hs fun y hy => reach_lt hs (hr.mem y (up.mem_iff.mp hy))).mpr (b.perm up))
    · intro h r hr q
      have tm := (mem_rows _ k 0 r).mp hr
      exact h c r tm.1 ((not_let_iff rfl hs fun y hy => reach_lt hs (tm.1.mem y hy)).mp q)
  · rw [if_neg c]
    simp [c]
/-! ### kept by k copies -/
theorem mem_unions {m : Nat} {l : List Nat} (hl : ∀ y ∈ l, y < 2 ^ m) : ∀ (k f : Nat), f ∈ unions m l k ↔ ∃ r : List Nat, r.length = k ∧ (∀ y ∈ r, y ∈ l) ∧ f = r.foldl (fun t y => t ||| y) 0 ∧ f < 2 ^ m
  | 0, f => by
    show f ∈ [0] ↔ _
    rw [List.mem_singleton]
    constructor
    · rintro rfl
      exact ⟨[], rfl, by simp, rfl, Nat.two_pow_pos m⟩
    · rintro ⟨r, hr, _, e, _⟩
      rw [List.eq_nil_of_length_eq_zero hr] at e
      exact e
  | k + 1, f => by
    show f ∈ ((unions m l k).flatMap fun f => l.map (join m f)).eraseDups ↔ _
    rw [List.mem_eraseDups, List.mem_flatMap]
    constructor
    · rintro ⟨g, hg, hf⟩
      obtain ⟨y, hy, rfl⟩ := List.mem_map.mp hf
      obtain ⟨r, hr, hm, e, hlt⟩ := (mem_unions hl k g).mp hg
      refine ⟨r ++ [y], by rw [List.length_append, hr]; rfl, fun z hz => ?_, ?_, join_lt _ _ _⟩
      · rcases List.mem_append.mp hz with q | q
        · exact hm z q
        · rw [List.mem_singleton.mp q]
          exact hy
      · rw [List.foldl_append, ← e, join_or hlt (hl y hy)]
        rfl
    · rintro ⟨r, hr, hm, e, hlt⟩
      have hne : r ≠ [] := by
        rintro rfl
        cases hr
      have hd := List.dropLast_concat_getLast hne
      have hy : r.getLast hne ∈ l := hm _ (List.getLast_mem hne)
      generalize r.getLast hne = y at hd hy
      generalize r.dropLast = t at hd
      subst hd
      rw [List.foldl_append] at e
      have hb : ∀ (t : List Nat) (z : Nat), z < 2 ^ m → (∀ y ∈ t, y < 2 ^ m) → t.foldl (fun t y => t ||| y) z < 2 ^ m := by
        intro t
        induction t with
        | nil => exact fun z hz _ => hz
        | cons x t ih => exact fun z hz h => ih _ (or_lt hz (h x List.mem_cons_self)) fun y hy => h y (List.mem_cons_of_mem _ hy)
      have ht : t.foldl (fun t y => t ||| y) 0 < 2 ^ m := hb t 0 (Nat.two_pow_pos m) fun y hy => hl y (hm y (List.mem_append_left _ hy))
      refine ⟨t.foldl (fun t y => t ||| y) 0, (mem_unions hl k _).mpr ⟨t, ?_, fun z hz => hm z (List.mem_append_left _ hz), rfl, ht⟩, List.mem_map.mpr ⟨y, hy, ?_⟩⟩
      · rw [List.length_append] at hr
        exact Nat.succ.inj hr
      · rw [join_or ht (hl y hy), e]
        rfl
theorem chg_map (s : Nat) (r : List Nat) : chg s r = (r.map fun y => s ^^^ y).foldl (fun t y => t ||| y) 0 := by
  unfold chg
  rw [List.foldl_map]
theorem keeps_iff {a : Abs} {k : Nat} : keeps a k = true ↔ ∀ s, s < 2 ^ a.m → let_ a s = true → ∀ r, Tup (reach a s) k r → ¬ Bad a s r := by
  unfold keeps
  rw [List.all_eq_true]
  have key : ∀ s, s < 2 ^ a.m → (((unions a.m ((reach a s).map (flips a.m s)) k).all fun f => let_ a (flips a.m s f)) = true ↔ ∀ r, Tup (reach a s) k r → ¬ Bad a s r) := by
    intro s hs
    have hl : ∀ y ∈ (reach a s).map (flips a.m s), y < 2 ^ a.m := fun y hy => by
      obtain ⟨x, _, rfl⟩ := List.mem_map.mp hy
      exact flips_lt _ _ _
    rw [List.all_eq_true]
    constructor
    · intro h r hr b
      have hlt : chg s r < 2 ^ a.m := chg_lt hs fun y hy => reach_lt hs (hr.mem y hy)
      have := h (chg s r) ((mem_unions hl k _).mpr ⟨r.map fun y => s ^^^ y, by rw [List.length_map, hr.len], fun z hz => ?_, chg_map s r, hlt⟩)
      · rw [flips_xor hs hlt] at this
        unfold Bad at b
        rw [b] at this
        cases this
      · obtain ⟨y, hy, rfl⟩ := List.mem_map.mp hz
        refine List.mem_map.mpr ⟨y, hr.mem y hy, ?_⟩
        exact flips_xor hs (reach_lt hs (hr.mem y hy))
    · intro h f hf
      obtain ⟨r, hr, hm, e, hlt⟩ := (mem_unions hl k f).mp hf
      have : ∃ t, Tup (reach a s) k t ∧ r = t.map fun y => s ^^^ y := by
        clear e hf
        have gen : ∀ (r : List Nat), (∀ y ∈ r, y ∈ (reach a s).map (flips a.m s)) → ∃ t : List Nat, t.length = r.length ∧ (∀ y ∈ t, y ∈ reach a s) ∧ r = t.map fun y => s ^^^ y := by
          intro r
          induction r with
          | nil => exact fun _ => ⟨[], rfl, by simp, rfl⟩
          | cons x r ih =>
            intro h
            obtain ⟨t, h1, h2, h3⟩ := ih fun y hy => h y (List.mem_cons_of_mem _ hy)
            obtain ⟨z, hz, e⟩ := List.mem_map.mp (h x List.mem_cons_self)
            refine ⟨z :: t, by simp [h1], fun y hy => ?_, ?_⟩
            · rcases List.mem_cons.mp hy with q | q
              · rw [q]; exact hz
              · exact h2 y q
            · rw [List.map_cons, ← h3, ← e, flips_xor hs (reach_lt hs hz)]
        obtain ⟨t, h1, h2, h3⟩ := gen r hm
        exact ⟨t, ⟨h1.trans hr, h2⟩, h3⟩
      obtain ⟨t, ht, e2⟩ := this
      have := h t ht
      rw [e2, ← chg_map] at e
      unfold Bad at this
      rw [flips_xor hs hlt, e]
      simpa using this
  constructor
  · intro h s hs hc
    have := h s (mem_states.mpr hs)
    rw [hc, Bool.not_true, Bool.false_or] at this
    exact (key s hs).mp this
  · intro h s hs
    have hs' := mem_states.mp hs
    cases c : let_ a s with
    | false => rfl
    | true =>
      rw [Bool.not_true, Bool.false_or]
      exact (key s hs').mpr (h s hs' c)
theorem keeps_broken (a : Abs) (k : Nat) : keeps a k = (broken a k).isNone := by
  have : keeps a k = true ↔ broken a k = none := by
    rw [keeps_iff]
    unfold broken
    rw [List.findSome?_eq_none_iff]
    constructor
    · intro h s hs
      rw [Option.map_eq_none_iff]
      have hs' := mem_states.mp hs
      exact (brokenAt_none hs').mpr (h s hs')
    · intro h s hs
      have := h s (mem_states.mpr hs)
      rw [Option.map_eq_none_iff] at this
      exact (brokenAt_none hs).mp this
  cases e : broken a k with
  | none => exact this.mpr e
  | some x =>
    show keeps a k = false
    cases c : keeps a k with
    | false => rfl
    | true =>
      have := this.mp c
      rw [e] at this
      cases this
end Ka
-- KaDp
namespace Ka
open Kh411
/-! ### the program's first_rows: pairs of what is changed and the first row that does it -/
abbrev Dp := List (Nat × List Nat)
def hasK (d : Dp) (c : Nat) : Bool := d.any fun p => p.1 == c
def putNew (d : Dp) (p : Nat × List Nat) : Dp := if hasK d p.1 then d else d ++ [p]
def ext (s : Nat) (reached : List Nat) (p : Nat × List Nat) : Dp := reached.map fun y => (p.1 ||| (s ^^^ y), p.2 ++ [y])
def nextDp (s : Nat) (reached : List Nat) (d : Dp) : Dp := d.foldl (fun acc p => (ext s reached p).foldl putNew acc) []
def dp (s : Nat) (reached : List Nat) : Nat → Dp
  | 0 => [(0, [])]
  | k + 1 => nextDp s reached (dp s reached k)
theorem nextDp_flat (s : Nat) (reached : List Nat) (d : Dp) : nextDp s reached d = (d.flatMap (ext s reached)).foldl putNew [] := by
  unfold nextDp
  rw [List.foldl_flatMap]
/-- what a list of pairs leaves behind, the first of each key alone -/
structure Kept (F E : Dp) : Prop where
  sub : List.Sublist E F
  first : ∀ p ∈ F, ∃ q ∈ E, q.1 = p.1
  nodup : (E.map (·.1)).Nodup
theorem hasK_iff {d : Dp} {c : Nat} : hasK d c = true ↔ ∃ q ∈ d, q.1 = c := by
  unfold hasK
  rw [List.any_eq_true]
  simp only [beq_iff_eq]
theorem kept_fold : ∀ (F G E : Dp), Kept G E → Kept (G ++ F) (F.foldl putNew E)
  | [], G, E, h => by
    rw [List.append_nil]
    exact h
  | p :: F, G, E, h => by
    have e : G ++ p :: F = (G ++ [p]) ++ F := by rw [List.append_assoc]; rfl
    rw [e]
    refine kept_fold F (G ++ [p]) (putNew E p) ?_
    unfold putNew
    by_cases c : hasK E p.1 = true
    · rw [if_pos c]
      refine ⟨h.sub.trans (List.sublist_append_left _ _), fun q hq => ?_, h.nodup⟩
      rcases List.mem_append.mp hq with z | z
      · exact h.first q z
      · rw [List.mem_singleton.mp z]
        exact hasK_iff.mp c
    · rw [if_neg c]
      refine ⟨h.sub.append (List.Sublist.refl _), fun q hq => ?_, ?_⟩
      · rcases List.mem_append.mp hq with z | z
        · obtain ⟨t, ht, e⟩ := h.first q z
          exact ⟨t, List.mem_append_left _ ht, e⟩
        · rw [List.mem_singleton.mp z]
          exact ⟨p, List.mem_append_right _ (List.mem_singleton.mpr rfl), rfl⟩
      · rw [List.map_append, List.nodup_append]
        refine ⟨h.nodup, by simp, fun x hx y hy => ?_⟩
        obtain ⟨q, hq, e⟩ := List.mem_map.mp hx
        have ey : y = p.1 := by simpa using hy
        rw [ey, ← e]
        intro z
        exact c (hasK_iff.mpr ⟨q, hq, z⟩)
theorem kept_all (F : Dp) : Kept F (F.foldl putNew []) := by
  have := kept_fold F [] [] ⟨List.Sublist.refl _, by simp, by simp⟩
  rw [List.nil_append] at this
  exact this
/-- in order: what's kept of a key is the first of the list -/
theorem kept_least {R : List Nat → List Nat → Prop} {F : Dp} (hF : F.Pairwise fun p q => R p.2 q.2) : ∀ p ∈ F, ∃ q ∈ F.foldl putNew [], q.1 = p.1 ∧ (q.2 = p.2 ∨ R q.2 p.2) := by
  -- over the parts: of what was taken all have theirs
  have gen : ∀ (F G E : Dp), (G ++ F).Pairwise (fun p q => R p.2 q.2) → Kept G E → (∀ p ∈ G, ∃ q ∈ E, q.1 = p.1 ∧ (q.2 = p.2 ∨ R q.2 p.2)) → ∀ p ∈ G ++ F, ∃ q ∈ F.foldl putNew E, q.1 = p.1 ∧ (q.2 = p.2 ∨ R q.2 p.2) := by
    intro F
    induction F with
    | nil =>
      intro G E _ _ h p hp
      rw [List.append_nil] at hp
      exact h p hp
    | cons x F ih =>
      intro G E hw hk h p hp
      have e : G ++ x :: F = (G ++ [x]) ++ F := by rw [List.append_assoc]; rfl
      rw [e] at hp hw
      refine ih (G ++ [x]) (putNew E x) hw ?_ ?_ p hp
      · exact kept_fold [x] G E hk
      · intro q hq
        unfold putNew
        by_cases c : hasK E x.1 = true
        · rw [if_pos c]
          rcases List.mem_append.mp hq with z | z
          · exact h q z
          · rw [List.mem_singleton.mp z]
            obtain ⟨t, ht, et⟩ := hasK_iff.mp c
            refine ⟨t, ht, et, .inr ?_⟩
            have tg : t ∈ G := hk.sub.subset ht
            have := (List.pairwise_append.mp (List.pairwise_append.mp hw).1).2.2 t tg x (List.mem_singleton.mpr rfl)
            exact this
        · rw [if_neg c]
          rcases List.mem_append.mp hq with z | z
          · obtain ⟨t, ht, et⟩ := h q z
            exact ⟨t, List.mem_append_left _ ht, et⟩
          · rw [List.mem_singleton.mp z]
            exact ⟨x, List.mem_append_right _ (List.mem_singleton.mpr rfl), rfl, .inl rfl⟩
  intro p hp
  exact gen F [] [] (by rw [List.nil_append]; exact hF) ⟨List.Sublist.refl _, by simp, by simp⟩ (by simp) p (by rw [List.nil_append]; exact hp)
/-- what holds of the program's rows -/
structure DpOk (s : Nat) (l : List Nat) (k : Nat) (d : Dp) : Prop where
  order : d.Pairwise fun p q => lexlt p.2 q.2
  tup : ∀ p ∈ d, Tup l k p.2 ∧ p.1 = chg s p.2
  least : ∀ r, Tup l k r → ∃ p ∈ d, p.1 = chg s r ∧ (p.2 = r ∨ lexlt p.2 r)
  nodup : (d.map (·.1)).Nodup
theorem dp_ok {s : Nat} {l : List Nat} (hl : Rising l) : ∀ k, DpOk s l k (dp s l k)
  | 0 => by
    show DpOk s l 0 [(0, [])]
    refine ⟨List.pairwise_singleton _ _, fun p hp => ?_, fun r hr => ?_, by simp⟩
    · rw [List.mem_singleton.mp hp]
      exact ⟨⟨rfl, by simp⟩, rfl⟩
    · rw [List.eq_nil_of_length_eq_zero hr.len]
      exact ⟨_, List.mem_singleton.mpr rfl, rfl, .inl rfl⟩
  | k + 1 => by
    have ih := dp_ok (s := s) hl k
    show DpOk s l (k + 1) (nextDp s l (dp s l k))
    rw [nextDp_flat]
    have hF : ((dp s l k).flatMap (ext s l)).Pairwise fun p q => lexlt p.2 q.2 := by
      rw [List.pairwise_flatMap]
      constructor
      · intro p _
        unfold ext
        rw [List.pairwise_map]
        exact hl.imp fun h => lexlt_snoc _ h
      · have order := ih.order
        have tup := ih.tup
        generalize dp s l k = D at order tup
        refine order.imp_of_mem fun {p q} hp hq h x hx y hy => ?_
        unfold ext at hx hy
        obtain ⟨u, _, rfl⟩ := List.mem_map.mp hx
        obtain ⟨v, _, rfl⟩ := List.mem_map.mp hy
        exact lexlt_app _ _ ((tup p hp).1.len.trans (tup q hq).1.len.symm) h
    have K := kept_all ((dp s l k).flatMap (ext s l))
    have hin : ∀ p ∈ (dp s l k).flatMap (ext s l), Tup l (k + 1) p.2 ∧ p.1 = chg s p.2 := by
      intro p hp
      obtain ⟨q, hq, hx⟩ := List.mem_flatMap.mp hp
      unfold ext at hx
      obtain ⟨y, hy, rfl⟩ := List.mem_map.mp hx
      have t := ih.tup q hq
      refine ⟨⟨by show (q.2 ++ [y]).length = k + 1; rw [List.length_append, t.1.len]; rfl, fun z hz => ?_⟩, ?_⟩
      · rcases List.mem_append.mp hz with e | e
        · exact t.1.mem z e
        · rw [List.mem_singleton.mp e]
          exact hy
      · show q.1 ||| (s ^^^ y) = chg s (q.2 ++ [y])
        rw [chg_snoc, t.2]
    refine ⟨List.Pairwise.sublist K.sub hF, fun p hp => hin p (K.sub.subset hp), fun r hr => ?_, K.nodup⟩
    have hne : r ≠ [] := by
      rintro rfl
      have := hr.len
      cases this
    have hd := List.dropLast_concat_getLast hne
    have hy : r.getLast hne ∈ l := hr.mem _ (List.getLast_mem hne)
    generalize r.getLast hne = y at hd hy
    generalize r.dropLast = t at hd
    subst hd
    have tt : Tup l k t := ⟨by have := hr.len; rw [List.length_append] at this; exact Nat.succ.inj this, fun z hz => hr.mem z (List.mem_append_left _ hz)⟩
    obtain ⟨p, hp, e, le⟩ := ih.least t tt
    have mF : (p.1 ||| (s ^^^ y), p.2 ++ [y]) ∈ (dp s l k).flatMap (ext s l) := List.mem_flatMap.mpr ⟨p, hp, List.mem_map.mpr ⟨y, hy, rfl⟩⟩
    obtain ⟨q, hq, e2, le2⟩ := kept_least (R := lexlt) hF _ mF
    refine ⟨q, hq, ?_, ?_⟩
    · rw [e2, chg_snoc, ← e]
    · have l1 : p.2 ++ [y] = t ++ [y] ∨ lexlt (p.2 ++ [y]) (t ++ [y]) := by
        rcases le with z | z
        · exact .inl (by rw [z])
        · exact .inr (lexlt_app _ _ ((ih.tup p hp).1.len.trans tt.len.symm) z)
      rcases le2 with z | z
      · rw [z]
        exact l1
      · rcases l1 with w | w
        · rw [← w]
          exact .inr z
        · exact .inr (lexlt_trans z w)
/-- the first pair whose change breaks the rule -/
def dpBad (a : Abs) (s : Nat) (d : Dp) : Option (Nat × List Nat) := d.find? fun p => !let_ a (s ^^^ p.1)
theorem dpBad_some {a : Abs} {s k : Nat} {l : List Nat} {d : Dp} (h : DpOk s l k d) {p : Nat × List Nat} (e : dpBad a s d = some p) : First a s l k p.2 ∧ p.1 = chg s p.2 := by
  have q := (find_first (R := fun p q : Nat × List Nat => lexlt p.2 q.2) (fun x y => lexlt_asymm) h.order p).mp e
  have tp := h.tup p q.1
  refine ⟨⟨tp.1, ?_, fun t ht bt => ?_⟩, tp.2⟩
  · have := q.2.1
    rw [tp.2] at this
    unfold Bad
    simpa using this
  · obtain ⟨r, hr, er, le⟩ := h.least t ht
    have := q.2.2 r hr (by rw [er]; unfold Bad at bt; rw [bt]; rfl)
    rcases this with z | z
    · rw [z] at le
      rcases le with w | w
      · exact .inl w.symm
      · exact .inr w
    · rcases le with w | w
      · rw [← w]
        exact .inr z
      · exact .inr (lexlt_trans z w)
theorem dpBad_none {a : Abs} {s k : Nat} {l : List Nat} {d : Dp} (h : DpOk s l k d) (e : dpBad a s d = none) : ∀ r, Tup l k r → ¬ Bad a s r := by
  intro r hr b
  obtain ⟨p, hp, ep, _⟩ := h.least r hr
  have := List.find?_eq_none.mp e p hp
  rw [ep] at this
  unfold Bad at b
  rw [b] at this
  exact this rfl
/-- the program's first_breaking_row: [] if there's none -/
def firstBad (a : Abs) (s k : Nat) : List Nat := match dpBad a s (dp s (reach a s) k) with
  | none => []
  | some p => p.2
theorem firstBad_is {a : Abs} {s k : Nat} (hs : s < 2 ^ a.m) (hc : let_ a s = true) : (brokenAt a k s).getD [] = firstBad a s k := by
  have ok := dp_ok (s := s) (reach_rising a s) k
  unfold firstBad
  cases e : dpBad a s (dp s (reach a s) k) with
  | none =>
    have := (brokenAt_none (k := k) hs).mpr fun _ => dpBad_none ok e
    rw [this]
    rfl
  | some p =>
    have := (brokenAt_some (k := k) hs p.2).mpr ⟨hc, (dpBad_some ok e).1⟩
    rw [this]
    rfl
theorem brokenAt_len {a : Abs} {s k : Nat} (hs : s < 2 ^ a.m) {r : List Nat} (h : brokenAt a k s = some r) : r.length = k := ((brokenAt_some hs r).mp h).2.tup.len
end Ka
-- KaWork
namespace Ka
open Kh411
/-! ### the program's way to reach: what is found, what is waiting -/
structure RInv (a : Abs) (s : Nat) (F W : List Nat) : Prop where
  here : s ∈ F
  nodup : F.Nodup
  rch : ∀ t ∈ F, Rch a s t
  sub : ∀ t ∈ W, t ∈ F
  shut : ∀ t ∈ F, t ∉ W → ∀ d ∈ a.deeds, ∀ u, done a t d = some u → u ∈ F
  le : W.length ≤ F.length
structure RIn (a : Abs) (s h : Nat) (F0 W0 : List Nat) (i : Nat) (F W : List Nat) : Prop where
  ext : ∃ G, F = F0 ++ G ∧ W = W0 ++ G
  nodup : F.Nodup
  rch : ∀ t ∈ F, Rch a s t
  seen : ∀ j, j < i → ∀ d, a.deeds[j]? = some d → ∀ u, done a h d = some u → u ∈ F
theorem RInv.start (a : Abs) (s : Nat) : RInv a s [s] [s] :=
  ⟨by simp, by simp, fun t ht => by rw [List.mem_singleton.mp ht]; exact .here, fun t ht => ht, fun t ht hn => absurd ht hn, Nat.le_refl _⟩
theorem RIn.start {a : Abs} {s h : Nat} {F W : List Nat} (I : RInv a s F (W ++ [h])) : RIn a s h F W 0 F W :=
  ⟨⟨[], by simp⟩, I.nodup, I.rch, fun j hj => absurd hj (Nat.not_lt_zero j)⟩
theorem RIn.skip {a : Abs} {s h i : Nat} {F0 W0 F W : List Nat} (I : RIn a s h F0 W0 i F W) {d : Deed} (hd : a.deeds[i]? = some d) (hu : ∀ u, done a h d = some u → u ∈ F) : RIn a s h F0 W0 (i + 1) F W := by
  refine ⟨I.ext, I.nodup, I.rch, fun j hj e he u hu' => ?_⟩
  by_cases c : j < i
  · exact I.seen j c e he u hu'
  · have : j = i := by omega
    subst this
    rw [hd] at he
    cases he
    exact hu u hu'
theorem RIn.add {a : Abs} {s h i u : Nat} {F0 W0 F W : List Nat} (I : RIn a s h F0 W0 i F W) {d : Deed} (hd : a.deeds[i]? = some d) (hh : Rch a s h) (hu : done a h d = some u) (hn : u ∉ F) : RIn a s h F0 W0 (i + 1) (F ++ [u]) (W ++ [u]) := by
  obtain ⟨G, e1, e2⟩ := I.ext
  refine ⟨⟨G ++ [u], by rw [e1, List.append_assoc], by rw [e2, List.append_assoc]⟩, ?_, fun t ht => ?_, fun j hj e he v hv => ?_⟩
  · rw [List.nodup_append]
    refine ⟨I.nodup, by simp, fun x hx y hy z => ?_⟩
    rw [List.mem_singleton.mp hy] at z
    rw [z] at hx
    exact hn hx
  · rcases List.mem_append.mp ht with q | q
    · exact I.rch t q
    · rw [List.mem_singleton.mp q]
      exact .go hh (List.mem_of_getElem? hd) hu
  · by_cases c : j < i
    · exact List.mem_append_left _ (I.seen j c e he v hv)
    · have : j = i := by omega
      subst this
      rw [hd] at he
      cases he
      rw [hu] at hv
      cases hv
      exact List.mem_append_right _ (List.mem_singleton.mpr rfl)
theorem RIn.le {a : Abs} {s h i : Nat} {F0 W0 F W : List Nat} (J : RInv a s F0 (W0 ++ [h])) (I : RIn a s h F0 W0 i F W) : W.length ≤ F.length := by
  obtain ⟨G, e1, e2⟩ := I.ext
  have := J.le
  subst e1 e2
  simp only [List.length_append, List.length_singleton] at *
  omega
theorem RIn.stop {a : Abs} {s h : Nat} {F0 W0 F W : List Nat} (J : RInv a s F0 (W0 ++ [h])) (I : RIn a s h F0 W0 a.deeds.length F W) : RInv a s F W := by
  obtain ⟨G, e1, e2⟩ := I.ext
  have up : ∀ t ∈ F0, t ∈ F := fun t ht => by rw [e1]; exact List.mem_append_left _ ht
  refine ⟨up s J.here, I.nodup, I.rch, fun t ht => ?_, fun t ht hn d hd u hu => ?_, RIn.le J I⟩
  · rw [e2] at ht
    rcases List.mem_append.mp ht with q | q
    · exact up t (J.sub t (List.mem_append_left _ q))
    · rw [e1]
      exact List.mem_append_right _ q
  · rw [e2] at hn
    have ht0 : t ∈ F0 := by
      rw [e1] at ht
      rcases List.mem_append.mp ht with q | q
      · exact q
      · exact absurd (List.mem_append_right _ q) hn
    by_cases c : t = h
    · subst c
      obtain ⟨j, hj⟩ := List.mem_iff_getElem?.mp hd
      exact I.seen j (List.getElem?_eq_some_iff.mp hj).1 d hj u hu
    · refine up u (J.shut t ht0 (fun q => ?_) d hd u hu)
      rcases List.mem_append.mp q with z | z
      · exact hn (List.mem_append_left _ z)
      · exact c (List.mem_singleton.mp z)
theorem nodup_le {n : Nat} {l : List Nat} (hn : l.Nodup) (hb : ∀ x ∈ l, x < n) : l.length ≤ n := by
  have h : (l.mergeSort fun x y => decide (x ≤ y)).Perm l := List.mergeSort_perm _ _
  have hs := List.pairwise_mergeSort (le := fun x y => decide (x ≤ y)) (fun a b c h1 h2 => by simp only [decide_eq_true_eq] at *; omega) (fun a b => by simp only [Bool.or_eq_true, decide_eq_true_eq]; omega) l
  rw [← h.length_eq]
  generalize l.mergeSort (fun x y => decide (x ≤ y)) = r at h hs
  refine rising_len (l := r) ?_ fun x hx => hb x (h.mem_iff.mp hx)
  have hd : r.Nodup := h.nodup_iff.mpr hn
  have : r.Pairwise (fun x y => decide (x ≤ y) = true ∧ x ≠ y) := List.Pairwise.and hs hd
  exact this.imp fun {x y} q => by
    have := q.1
    simp only [decide_eq_true_eq] at this
    have := q.2
    omega
theorem RInv.len {a : Abs} {s : Nat} {F W : List Nat} (hs : s < 2 ^ a.m) (I : RInv a s F W) : F.length ≤ 2 ^ a.m := nodup_le I.nodup fun x hx => (I.rch x hx).lt hs
theorem RIn.len {a : Abs} {s h i : Nat} {F0 W0 F W : List Nat} (hs : s < 2 ^ a.m) (I : RIn a s h F0 W0 i F W) : F.length ≤ 2 ^ a.m := nodup_le I.nodup fun x hx => (I.rch x hx).lt hs
/-- the measure falls: one is taken off, and each new one counts twice -/
theorem RIn.less {a : Abs} {s h i : Nat} {F0 W0 F W : List Nat} (hs : s < 2 ^ a.m) (I : RIn a s h F0 W0 i F W) : 2 * (2 ^ a.m - F.length) + W.length < 2 * (2 ^ a.m - F0.length) + (W0 ++ [h]).length := by
  have hl := I.len hs
  obtain ⟨G, e1, e2⟩ := I.ext
  subst e1 e2
  simp only [List.length_append, List.length_singleton] at *
  omega
theorem RInv.finish {a : Abs} {s : Nat} {F : List Nat} (hs : s < 2 ^ a.m) (I : RInv a s F []) {ys : List Nat} (hp : ys.Perm F) (ho : ys.Pairwise (· ≤ ·)) : ys = reach a s := by
  refine reach_unique hs ?_ (hp.mem_iff.mpr I.here) (fun t ht d hd u hu => hp.mem_iff.mpr (I.shut t (hp.mem_iff.mp ht) (by simp) d hd u hu)) fun t ht => I.rch t (hp.mem_iff.mp ht)
  have hd : ys.Nodup := hp.nodup_iff.mpr I.nodup
  have : ys.Pairwise (fun x y => x ≤ y ∧ x ≠ y) := List.Pairwise.and ho hd
  exact this.imp fun {x y} q => by omega
end Ka
-- KaFold
namespace Ka
open Kh411
theorem take_more {α : Type} : ∀ {l : List α} {i : Nat} {x : α}, l[i]? = some x → l.take (i + 1) = l.take i ++ [x]
  | [], i, x, h => by simp at h
  | a :: l, 0, x, h => by
    have e : a = x := Option.some.inj h
    subst e
    rfl
  | a :: l, i + 1, x, h => by
    have ih := take_more (l := l) (i := i) (x := x) h
    show a :: l.take (i + 1) = a :: l.take i ++ [x]
    rw [ih]
    rfl
theorem chg_take {s i n : Nat} {ns : List Nat} (h : ns[i]? = some n) : chg s (ns.take (i + 1)) = chg s (ns.take i) ||| (s ^^^ n) := by
  rw [take_more h, chg_snoc]
/-! ### the two loops of first_rows, turn by turn -/
def accIn (s : Nat) (ns : List Nat) (p : Nat × List Nat) (j : Nat) (acc : Dp) : Dp := ((ext s ns p).take j).foldl putNew acc
def accAt (s : Nat) (ns : List Nat) (d : Dp) (i : Nat) : Dp := (d.take i).foldl (fun acc p => (ext s ns p).foldl putNew acc) []
theorem accAt_zero (s : Nat) (ns : List Nat) (d : Dp) : accAt s ns d 0 = [] := rfl
theorem accAt_all (s : Nat) (ns : List Nat) (d : Dp) : accAt s ns d d.length = nextDp s ns d := by
  unfold accAt nextDp
  rw [List.take_length]
theorem accAt_more {s i : Nat} {ns : List Nat} {d : Dp} {p : Nat × List Nat} (h : d[i]? = some p) : accAt s ns d (i + 1) = accIn s ns p ns.length (accAt s ns d i) := by
  unfold accAt accIn
  rw [take_more h, List.foldl_append]
  have : (ext s ns p).take ns.length = ext s ns p := by
    have e : (ext s ns p).length = ns.length := List.length_map _
    rw [← e, List.take_length]
  rw [this]
  rfl
theorem accIn_zero (s : Nat) (ns : List Nat) (p : Nat × List Nat) (acc : Dp) : accIn s ns p 0 acc = acc := rfl
theorem accIn_more {s j y : Nat} {ns : List Nat} {p : Nat × List Nat} {acc : Dp} (h : ns[j]? = some y) : accIn s ns p (j + 1) acc = putNew (accIn s ns p j acc) (p.1 ||| (s ^^^ y), p.2 ++ [y]) := by
  unfold accIn
  have : (ext s ns p)[j]? = some (p.1 ||| (s ^^^ y), p.2 ++ [y]) := by
    unfold ext
    rw [List.getElem?_map, h]
    rfl
  rw [take_more this, List.foldl_append]
  rfl
theorem fold_len : ∀ (F acc : Dp), (F.foldl putNew acc).length ≤ acc.length + F.length
  | [], acc => Nat.le_refl _
  | p :: F, acc => by
    have ih := fold_len F (putNew acc p)
    have : (putNew acc p).length ≤ acc.length + 1 := by
      unfold putNew
      split
      · omega
      · rw [List.length_append]
        exact Nat.le_refl _
    rw [List.foldl_cons, List.length_cons]
    omega
theorem accIn_len (s : Nat) (ns : List Nat) (p : Nat × List Nat) (j : Nat) (acc : Dp) : (accIn s ns p j acc).length ≤ acc.length + ns.length := by
  unfold accIn
  have h := fold_len ((ext s ns p).take j) acc
  have e : (ext s ns p).length = ns.length := List.length_map _
  have : ((ext s ns p).take j).length ≤ ns.length := by
    rw [List.length_take]
    omega
  omega
theorem accAt_len (s : Nat) (ns : List Nat) (d : Dp) (i : Nat) : (accAt s ns d i).length ≤ d.length * ns.length := by
  have gen : ∀ (l acc : Dp), (l.foldl (fun acc p => (ext s ns p).foldl putNew acc) acc).length ≤ acc.length + l.length * ns.length := by
    intro l
    induction l with
    | nil => intro acc; simp
    | cons p l ih =>
      intro acc
      rw [List.foldl_cons]
      have h1 := ih ((ext s ns p).foldl putNew acc)
      have h2 := fold_len (ext s ns p) acc
      have e : (ext s ns p).length = ns.length := List.length_map _
      rw [List.length_cons, Nat.succ_mul]
      omega
  have := gen (d.take i) []
  unfold accAt
  refine Nat.le_trans this ?_
  rw [List.length_nil, Nat.zero_add]
  refine Nat.mul_le_mul_right _ ?_
  rw [List.length_take]
  omega
theorem dp_len (s : Nat) {ns : List Nat} (h : ns.length ≤ 16) : ∀ k, (dp s ns k).length ≤ 16 ^ k
  | 0 => Nat.le_refl _
  | k + 1 => by
    show (nextDp s ns (dp s ns k)).length ≤ _
    rw [← accAt_all]
    refine Nat.le_trans (accAt_len s ns _ _) ?_
    rw [Nat.pow_succ]
    exact Nat.mul_le_mul (dp_len s h k) h
theorem dp_len4 (s : Nat) {ns : List Nat} (h : ns.length ≤ 16) {k : Nat} (hk : k ≤ 4) : (dp s ns k).length ≤ 65536 :=
  Nat.le_trans (dp_len s h k) (Nat.le_trans (Nat.pow_le_pow_right (by decide) hk) (by decide))
end Ka
-- KaFlat
namespace Ka
open Kh411
/-! ### one call of the flat list -/
def cast (l : List Nat) : List Int := l.map fun n : Nat => (n : Int)
theorem cast_of {l : List Int} (h : ∀ x ∈ l, 0 ≤ x) : l = cast (l.map Int.toNat) := by
  unfold cast
  rw [List.map_map]
  have : l.map id = l := List.map_id l
  refine this.symm.trans (List.map_congr_left fun x hx => ?_)
  have := h x hx
  show x = ((x.toNat : Nat) : Int)
  omega
/-- how many whole numbers a call has ahead of its row -/
def ar : List Nat := [1, 1, 4, 1, 1, 1, 2, 1, 1, 1, 1, 0, 2, 2, 0, 1, 0, 0, 1, 0, 0, 0]
/-- the call with the number p and the numbers ns -/
def mkC : Nat → List Nat → Option Call
  | 0, [m] => some (.begin_ m)
  | 1, [r] => some (.rule r)
  | 2, [n, b, x, y] => some (.deed n b x y)
  | 3, [i] => some (.drop i)
  | 4, [i] => some (.deedIs i)
  | 5, [s] => some (.let_ s)
  | 6, [s, i] => some (.does s i)
  | 7, [s] => some (.reach s)
  | 8, s :: _ :: r => if r.length ≤ 4 then some (.together s r) else none
  | 9, [k] => some (.keeps k)
  | 10, [k] => some (.broken k)
  | 11, [] => some .fewest
  | 12, [k, s] => some (.brokenAt k s)
  | 13, [i, j] => some (.clash i j)
  | 14, [] => some .clashes
  | 15, [x] => some (.free x)
  | 16, [] => some .mostFree
  | 17, [] => some .asked
  | 18, [i] => some (.alone i)
  | 19, [] => some .closed
  | 20, [] => some .open_
  | 21, [] => some .state
  | _, _ => none
structure CallIs (c : List (List Int)) (p : Nat) (ns : List Nat) (k : Call) : Prop where
  put : PyFlat.put1 c = cast (p :: ns)
  made : mkC p ns = some k
  is : Kh411Neutral.callOf1 (PyKh411.whole c) = k
  ends : ∃ n, ar[p]? = some n ∧ ((p ≠ 8 ∧ ns.length = n) ∨ (p = 8 ∧ ∃ j, ns[n]? = some j ∧ ns.length = n + 1 + j))
theorem whole_id (c : List (List Int)) : PyKh411.whole c = c := by
  unfold PyKh411.whole
  split <;> rfl
theorem len0 {a : List Int} (h : 0 = a.length) : a = [] := List.eq_nil_of_length_eq_zero h.symm
theorem len1 {a : List Int} (h : 1 = a.length) : ∃ x, a = [x] := by
  match a, h with
  | [x], _ => exact ⟨x, rfl⟩
theorem len2 {a : List Int} (h : 2 = a.length) : ∃ x y, a = [x, y] := by
  match a, h with
  | [x, y], _ => exact ⟨x, y, rfl⟩
theorem len4 {a : List Int} (h : 4 = a.length) : ∃ x y z u, a = [x, y, z, u] := by
  match a, h with
  | [x, y, z, u], _ => exact ⟨x, y, z, u, rfl⟩
theorem row1 {a : List (List Int)} (h : 1 = a.length) : ∃ x, a = [x] := by
  match a, h with
  | [x], _ => exact ⟨x, rfl⟩
theorem row0 {a : List (List Int)} (h : 0 = a.length) : a = [] := List.eq_nil_of_length_eq_zero h.symm
theorem nat_of {x : Int} (h : 0 ≤ x) : ∃ n : Nat, x = (n : Int) := ⟨x.toNat, by omega⟩
theorem is0 (q : Nat) (f : Call) (m1 : mkC q [] = some f) (m2 : Kh411Neutral.callOf1 [[(q : Int)]] = f) (m3 : ar[q]? = some 0) (m4 : q ≠ 8) : ∃ p ns k, CallIs [[(q : Int)]] p ns k :=
  ⟨q, [], f, rfl, m1, by rw [whole_id]; exact m2, 0, m3, .inl ⟨m4, rfl⟩⟩
theorem is1 (q : Nat) (f : Nat → Call) {x : Int} (hx : 0 ≤ x) (m1 : ∀ m, mkC q [m] = some (f m)) (m2 : ∀ m : Nat, Kh411Neutral.callOf1 [[(q : Int), (m : Int)]] = f m) (m3 : ar[q]? = some 1) (m4 : q ≠ 8) : ∃ p ns k, CallIs [[(q : Int), x]] p ns k := by
  obtain ⟨m, rfl⟩ := nat_of hx
  exact ⟨q, [m], f m, rfl, m1 m, by rw [whole_id]; exact m2 m, 1, m3, .inl ⟨m4, rfl⟩⟩
theorem is2 (q : Nat) (f : Nat → Nat → Call) {x y : Int} (hx : 0 ≤ x) (hy : 0 ≤ y) (m1 : ∀ m n, mkC q [m, n] = some (f m n)) (m2 : ∀ m n : Nat, Kh411Neutral.callOf1 [[(q : Int), (m : Int), (n : Int)]] = f m n) (m3 : ar[q]? = some 2) (m4 : q ≠ 8) : ∃ p ns k, CallIs [[(q : Int), x, y]] p ns k := by
  obtain ⟨m, rfl⟩ := nat_of hx
  obtain ⟨n, rfl⟩ := nat_of hy
  exact ⟨q, [m, n], f m n, rfl, m1 m n, by rw [whole_id]; exact m2 m n, 2, m3, .inl ⟨m4, rfl⟩⟩
theorem call_is {c : List (List Int)} (ok : PyFlat.okCall PyKh411.shape c) (pos : ∀ x ∈ PyFlat.put1 c, 0 ≤ x) (ask : Kh411Neutral.asked1 (PyKh411.whole c) = true) : ∃ p ns k, CallIs c p ns k := by
  obtain ⟨p, a, xs, rfl, hs⟩ := ok
  rw [whole_id] at ask
  have hp : 0 ≤ p ∧ p ≤ 21 := by
    have : Kh411Neutral.within p 0 21 = true := by
      unfold Kh411Neutral.asked1 at ask
      rw [Bool.and_eq_true] at ask
      exact ask.1
    unfold Kh411Neutral.within at this
    rw [Bool.and_eq_true, decide_eq_true_eq, decide_eq_true_eq] at this
    exact this
  have pos' : ∀ x ∈ a, 0 ≤ x := fun x hx => pos x (List.mem_append_left _ (List.mem_cons_of_mem _ hx))
  have pin : p = 0 ∨ p = 1 ∨ p = 2 ∨ p = 3 ∨ p = 4 ∨ p = 5 ∨ p = 6 ∨ p = 7 ∨ p = 8 ∨ p = 9 ∨ p = 10 ∨ p = 11 ∨ p = 12 ∨ p = 13 ∨ p = 14 ∨ p = 15 ∨ p = 16 ∨ p = 17 ∨ p = 18 ∨ p = 19 ∨ p = 20 ∨ p = 21 := by omega
  rcases pin with h | h | h | h | h | h | h | h | h | h | h | h | h | h | h | h | h | h | h | h | h | h
  · subst h
    obtain ⟨h1, h2⟩ := Prod.mk.inj (Option.some.inj (show some (1, 0) = some (a.length, xs.length) from hs))
    have := row0 h2
    subst this
    obtain ⟨x, rfl⟩ := len1 h1
    exact is1 0 .begin_ (pos' x (by simp)) (fun _ => rfl) (fun _ => rfl) rfl (by decide)
  · subst h
    obtain ⟨h1, h2⟩ := Prod.mk.inj (Option.some.inj (show some (1, 0) = some (a.length, xs.length) from hs))
    have := row0 h2
    subst this
    obtain ⟨x, rfl⟩ := len1 h1
    exact is1 1 .rule (pos' x (by simp)) (fun _ => rfl) (fun _ => rfl) rfl (by decide)
  · subst h
    obtain ⟨h1, h2⟩ := Prod.mk.inj (Option.some.inj (show some (4, 0) = some (a.length, xs.length) from hs))
    have := row0 h2
    subst this
    obtain ⟨x, y, z, u, rfl⟩ := len4 h1
    obtain ⟨x, rfl⟩ := nat_of (pos' x (by simp))
    obtain ⟨y, rfl⟩ := nat_of (pos' y (by simp))
    obtain ⟨z, rfl⟩ := nat_of (pos' z (by simp))
    obtain ⟨u, rfl⟩ := nat_of (pos' u (by simp))
    exact ⟨2, [x, y, z, u], .deed x y z u, rfl, rfl, by rw [whole_id]; rfl, 4, rfl, .inl ⟨by decide, rfl⟩⟩
  · subst h
    obtain ⟨h1, h2⟩ := Prod.mk.inj (Option.some.inj (show some (1, 0) = some (a.length, xs.length) from hs))
    have := row0 h2
    subst this
    obtain ⟨x, rfl⟩ := len1 h1
    exact is1 3 .drop (pos' x (by simp)) (fun _ => rfl) (fun _ => rfl) rfl (by decide)
  · subst h
    obtain ⟨h1, h2⟩ := Prod.mk.inj (Option.some.inj (show some (1, 0) = some (a.length, xs.length) from hs))
    have := row0 h2
    subst this
    obtain ⟨x, rfl⟩ := len1 h1
    exact is1 4 .deedIs (pos' x (by simp)) (fun _ => rfl) (fun _ => rfl) rfl (by decide)
  · subst h
    obtain ⟨h1, h2⟩ := Prod.mk.inj (Option.some.inj (show some (1, 0) = some (a.length, xs.length) from hs))
    have := row0 h2
    subst this
    obtain ⟨x, rfl⟩ := len1 h1
    exact is1 5 .let_ (pos' x (by simp)) (fun _ => rfl) (fun _ => rfl) rfl (by decide)
  · subst h
    obtain ⟨h1, h2⟩ := Prod.mk.inj (Option.some.inj (show some (2, 0) = some (a.length, xs.length) from hs))
    have := row0 h2
    subst this
    obtain ⟨x, y, rfl⟩ := len2 h1
    exact is2 6 .does (pos' x (by simp)) (pos' y (by simp)) (fun _ _ => rfl) (fun _ _ => rfl) rfl (by decide)
  · subst h
    obtain ⟨h1, h2⟩ := Prod.mk.inj (Option.some.inj (show some (1, 0) = some (a.length, xs.length) from hs))
    have := row0 h2
    subst this
    obtain ⟨x, rfl⟩ := len1 h1
    exact is1 7 .reach (pos' x (by simp)) (fun _ => rfl) (fun _ => rfl) rfl (by decide)
  · subst h
    obtain ⟨h1, h2⟩ := Prod.mk.inj (Option.some.inj (show some (1, 1) = some (a.length, xs.length) from hs))
    obtain ⟨x, rfl⟩ := len1 h1
    obtain ⟨r, rfl⟩ := row1 h2
    obtain ⟨x, rfl⟩ := nat_of (pos' x (by simp))
    have hr : ∀ y ∈ r, 0 ≤ y := fun y hy => pos y (List.mem_append_right _ (List.mem_append_left _ (List.mem_cons_of_mem _ hy)))
    have hlen : r.length ≤ 4 := by
      have q : Kh411Neutral.okRow (false, 4) r = true := by
        unfold Kh411Neutral.asked1 at ask
        simp only [Bool.and_eq_true] at ask
        have := ask.2.2.2.2
        have e : ((Kh411Neutral.behind.getD (Kh411Neutral.nat (([8, (x : Int)] : List Int).headD 0)) []).zip [r]) = [((false, 4), r)] := rfl
        rw [e] at this
        simpa using this
      unfold Kh411Neutral.okRow at q
      rw [Bool.and_eq_true, decide_eq_true_eq] at q
      exact q.1
    refine ⟨8, x :: r.length :: r.map Int.toNat, .together x (r.map Int.toNat), ?_, ?_, ?_, 1, rfl, .inr ⟨rfl, r.length, rfl, ?_⟩⟩
    · show (8 : Int) :: (x : Int) :: ((r.length : Int) :: r) ++ [] = (8 : Int) :: (x : Int) :: (r.length : Int) :: cast (r.map Int.toNat)
      rw [← cast_of hr, List.append_nil]
    · show (if (r.map Int.toNat).length ≤ 4 then some (Call.together x (r.map Int.toNat)) else none) = _
      rw [if_pos (by rw [List.length_map]; exact hlen)]
    · rw [whole_id]
      rfl
    · show (r.map Int.toNat).length + 1 + 1 = _
      rw [List.length_map]
      omega
  · subst h
    obtain ⟨h1, h2⟩ := Prod.mk.inj (Option.some.inj (show some (1, 0) = some (a.length, xs.length) from hs))
    have := row0 h2
    subst this
    obtain ⟨x, rfl⟩ := len1 h1
    exact is1 9 .keeps (pos' x (by simp)) (fun _ => rfl) (fun _ => rfl) rfl (by decide)
  · subst h
    obtain ⟨h1, h2⟩ := Prod.mk.inj (Option.some.inj (show some (1, 0) = some (a.length, xs.length) from hs))
    have := row0 h2
    subst this
    obtain ⟨x, rfl⟩ := len1 h1
    exact is1 10 .broken (pos' x (by simp)) (fun _ => rfl) (fun _ => rfl) rfl (by decide)
  · subst h
    obtain ⟨h1, h2⟩ := Prod.mk.inj (Option.some.inj (show some (0, 0) = some (a.length, xs.length) from hs))
    have := row0 h2
    subst this
    have := len0 h1
    subst this
    exact is0 11 .fewest rfl rfl rfl (by decide)
  · subst h
    obtain ⟨h1, h2⟩ := Prod.mk.inj (Option.some.inj (show some (2, 0) = some (a.length, xs.length) from hs))
    have := row0 h2
    subst this
    obtain ⟨x, y, rfl⟩ := len2 h1
    exact is2 12 .brokenAt (pos' x (by simp)) (pos' y (by simp)) (fun _ _ => rfl) (fun _ _ => rfl) rfl (by decide)
  · subst h
    obtain ⟨h1, h2⟩ := Prod.mk.inj (Option.some.inj (show some (2, 0) = some (a.length, xs.length) from hs))
    have := row0 h2
    subst this
    obtain ⟨x, y, rfl⟩ := len2 h1
    exact is2 13 .clash (pos' x (by simp)) (pos' y (by simp)) (fun _ _ => rfl) (fun _ _ => rfl) rfl (by decide)
  · subst h
    obtain ⟨h1, h2⟩ := Prod.mk.inj (Option.some.inj (show some (0, 0) = some (a.length, xs.length) from hs))
    have := row0 h2
    subst this
    have := len0 h1
    subst this
    exact is0 14 .clashes rfl rfl rfl (by decide)
  · subst h
    obtain ⟨h1, h2⟩ := Prod.mk.inj (Option.some.inj (show some (1, 0) = some (a.length, xs.length) from hs))
    have := row0 h2
    subst this
    obtain ⟨x, rfl⟩ := len1 h1
    exact is1 15 .free (pos' x (by simp)) (fun _ => rfl) (fun _ => rfl) rfl (by decide)
  · subst h
    obtain ⟨h1, h2⟩ := Prod.mk.inj (Option.some.inj (show some (0, 0) = some (a.length, xs.length) from hs))
    have := row0 h2
    subst this
    have := len0 h1
    subst this
    exact is0 16 .mostFree rfl rfl rfl (by decide)
  · subst h
    obtain ⟨h1, h2⟩ := Prod.mk.inj (Option.some.inj (show some (0, 0) = some (a.length, xs.length) from hs))
    have := row0 h2
    subst this
    have := len0 h1
    subst this
    exact is0 17 .asked rfl rfl rfl (by decide)
  · subst h
    obtain ⟨h1, h2⟩ := Prod.mk.inj (Option.some.inj (show some (1, 0) = some (a.length, xs.length) from hs))
    have := row0 h2
    subst this
    obtain ⟨x, rfl⟩ := len1 h1
    exact is1 18 .alone (pos' x (by simp)) (fun _ => rfl) (fun _ => rfl) rfl (by decide)
  · subst h
    obtain ⟨h1, h2⟩ := Prod.mk.inj (Option.some.inj (show some (0, 0) = some (a.length, xs.length) from hs))
    have := row0 h2
    subst this
    have := len0 h1
    subst this
    exact is0 19 .closed rfl rfl rfl (by decide)
  · subst h
    obtain ⟨h1, h2⟩ := Prod.mk.inj (Option.some.inj (show some (0, 0) = some (a.length, xs.length) from hs))
    have := row0 h2
    subst this
    have := len0 h1
    subst this
    exact is0 20 .open_ rfl rfl rfl (by decide)
  · subst h
    obtain ⟨h1, h2⟩ := Prod.mk.inj (Option.some.inj (show some (0, 0) = some (a.length, xs.length) from hs))
    have := row0 h2
    subst this
    have := len0 h1
    subst this
    exact is0 21 .state rfl rfl rfl (by decide)
end Ka
-- KaRun
namespace Ka
open Kh411
abbrev One := Nat × List Nat × Call
def Good (q : One) : Prop := mkC q.1 q.2.1 = some q.2.2 ∧ ∃ n, ar[q.1]? = some n ∧ ((q.1 ≠ 8 ∧ q.2.1.length = n) ∨ (q.1 = 8 ∧ ∃ j, q.2.1[n]? = some j ∧ q.2.1.length = n + 1 + j))
def flat : List One → List Nat
  | [] => []
  | q :: qs => (q.1 :: q.2.1) ++ flat qs
def ansL (x : Ans) : List Int := x.ret :: x.out
/-- what is given back of calls, from a state -/
def run : Option Abs → List One → List Int
  | _, [] => []
  | st, q :: qs => ((ansL (doing st q.2.2).2).length : Int) :: (ansL (doing st q.2.2).2 ++ run (doing st q.2.2).1 qs)
theorem run_cons (st : Option Abs) (q : One) (qs : List One) : run st (q :: qs) = ((ansL (doing st q.2.2).2).length : Int) :: (ansL (doing st q.2.2).2 ++ run (doing st q.2.2).1 qs) := rfl
theorem run_is : ∀ (cs : List (List (List Int))) (st : Option Abs), (∀ c ∈ cs, ∃ p ns k, CallIs c p ns k) → ∃ qs : List One, PyFlat.put cs = cast (flat qs) ∧ (∀ q ∈ qs, Good q) ∧ PyFlat.told (PyFlat.played Kh411Neutral.step st (cs.map PyKh411.whole)) = run st qs
  | [], _, _ => ⟨[], rfl, by simp, rfl⟩
  | c :: cs, st, h => by
    obtain ⟨p, ns, k, C⟩ := h c List.mem_cons_self
    obtain ⟨qs, h1, h2, h3⟩ := run_is cs (doing st k).1 fun d hd => h d (List.mem_cons_of_mem _ hd)
    refine ⟨(p, ns, k) :: qs, ?_, ?_, ?_⟩
    · show PyFlat.put1 c ++ PyFlat.put cs = cast ((p :: ns) ++ flat qs)
      rw [C.put, h1]
      unfold cast
      rw [List.map_append]
    · intro q hq
      rcases List.mem_cons.mp hq with e | e
      · rw [e]
        exact ⟨C.made, C.ends⟩
      · exact h2 q e
    · have es : Kh411Neutral.step st (PyKh411.whole c) = ((doing st k).1, ansL (doing st k).2) := by
        show ((doing st (Kh411Neutral.callOf1 (PyKh411.whole c))).1, _) = _
        unfold ansL
        rw [← C.is]
      show PyFlat.told ((Kh411Neutral.step st (PyKh411.whole c)).2 :: PyFlat.played Kh411Neutral.step (Kh411Neutral.step st (PyKh411.whole c)).1 (cs.map PyKh411.whole)) = _
      rw [es]
      show ((ansL (doing st k).2).length : Int) :: ansL (doing st k).2 ++ PyFlat.told (PyFlat.played Kh411Neutral.step (doing st k).1 (cs.map PyKh411.whole)) = _
      rw [h3]
      rfl
theorem mem_put {x : Int} {c : List (List Int)} : ∀ {cs : List (List (List Int))}, c ∈ cs → x ∈ PyFlat.put1 c → x ∈ PyFlat.put cs
  | d :: ds, hc, hx => by
    rcases List.mem_cons.mp hc with z | z
    · rw [← z]
      exact List.mem_append_left _ hx
    · exact List.mem_append_right _ (mem_put z hx)
theorem answers_run {l : List Int} (pos : ∀ x ∈ l, 0 ≤ x) (ask : PyKh411.answers_asked l = true) : ∃ qs : List One, l = cast (flat qs) ∧ (∀ q ∈ qs, Good q) ∧ PyKh411.answers l = run none qs ∧ (PyKh411.answers l).length ≤ 10000000 := by
  unfold PyKh411.answers_asked at ask
  cases e : PyFlat.calls PyKh411.shape l.length l with
  | none =>
    rw [e] at ask
    cases ask
  | some raw =>
    rw [e] at ask
    simp only [Bool.and_eq_true] at ask
    obtain ⟨⟨⟨⟨_, _⟩, _⟩, h4⟩, h5⟩ := ask
    obtain ⟨hl, hok⟩ := PyFlat.put_calls _ _ _ e
    have hc : ∀ c ∈ raw, ∃ p ns k, CallIs c p ns k := fun c hc => by
      refine call_is (hok c hc) (fun x hx => pos x ?_) ?_
      · rw [hl]
        exact mem_put hc hx
      · unfold Kh411Neutral.asked at h4
        rw [Bool.and_eq_true] at h4
        exact List.all_eq_true.mp h4.2 _ (List.mem_map.mpr ⟨c, hc, rfl⟩)
    obtain ⟨qs, h1, h2, h3⟩ := run_is raw none hc
    refine ⟨qs, by rw [hl, h1], h2, ?_, ?_⟩
    · unfold PyKh411.answers PyKh411.calls
      rw [e]
      exact h3
    · unfold PyFlat.short at h5
      exact of_decide_eq_true h5
end Ka
-- KaMore
namespace Ka
open Kh411
/-! ### one copy; more copies; as many copies as facts -/
theorem xor_self_xor (s y : Nat) : s ^^^ (s ^^^ y) = y := by
  rw [← Nat.xor_assoc, Nat.xor_self, Nat.zero_xor]
theorem Rch.let_ {a : Abs} {s t : Nat} (h : Rch a s t) (hs : let_ a s = true) : Kh411.let_ a t = true := by
  cases h with
  | here => exact hs
  | go _ _ e =>
    unfold done at e
    split at e
    · next c =>
      cases e
      rw [Bool.and_eq_true] at c
      exact c.2
    · cases e
theorem keeps_one (a : Abs) : keeps a 1 = true := by
  rw [keeps_iff]
  intro s hs hl r hr b
  match r, hr.len with
  | [y], _ =>
    have hy : Rch a s y := (mem_reach hs).mp (hr.mem y (List.mem_singleton.mpr rfl))
    have e : chg s [y] = s ^^^ y := by
      show 0 ||| (s ^^^ y) = _
      rw [Nat.zero_or]
    unfold Bad at b
    rw [e, xor_self_xor, hy.let_ hl] at b
    cases b
theorem keeps_less {a : Abs} {k : Nat} (h : keeps a (k + 1) = true) : keeps a k = true := by
  rw [keeps_iff] at h ⊢
  intro s hs hl r hr b
  refine h s hs hl (r ++ [s]) ⟨by rw [List.length_append, hr.len]; rfl, fun y hy => ?_⟩ ?_
  · rcases List.mem_append.mp hy with q | q
    · exact hr.mem y q
    · rw [List.mem_singleton.mp q]
      exact reach_here hs
  · unfold Bad at b ⊢
    rw [chg_snoc, Nat.xor_self, Nat.or_zero]
    exact b
theorem keeps_le {a : Abs} {j k : Nat} (h : keeps a k = true) (hj : j ≤ k) : keeps a j = true := by
  induction k with
  | zero =>
    have : j = 0 := by omega
    rw [this]
    exact h
  | succ k ih =>
    by_cases c : j = k + 1
    · rw [c]
      exact h
    · exact ih (keeps_less h) (by omega)
/-- one copy for each fact that is changed -/
def pick (m s : Nat) (r : List Nat) : List Nat := (List.range m).map fun i => (r.find? fun y => (s ^^^ y).testBit i).getD s
theorem pick_mem {m s : Nat} {r : List Nat} {y : Nat} (h : y ∈ pick m s r) : y ∈ r ∨ y = s := by
  obtain ⟨i, _, rfl⟩ := List.mem_map.mp h
  cases e : r.find? fun y => (s ^^^ y).testBit i with
  | none => exact .inr rfl
  | some z => exact .inl (List.mem_of_find?_eq_some e)
theorem pick_chg {m s : Nat} {r : List Nat} (hs : s < 2 ^ m) (hr : ∀ y ∈ r, y < 2 ^ m) : chg s (pick m s r) = chg s r := by
  refine Nat.eq_of_testBit_eq fun i => ?_
  rw [chg_tb, chg_tb]
  have iff : ((pick m s r).any fun y => (s ^^^ y).testBit i) = true ↔ (r.any fun y => (s ^^^ y).testBit i) = true := by
    rw [List.any_eq_true, List.any_eq_true]
    constructor
    · rintro ⟨y, hy, hb⟩
      rcases pick_mem hy with q | q
      · exact ⟨y, q, hb⟩
      · rw [q, Nat.xor_self, Nat.zero_testBit] at hb
        cases hb
    · rintro ⟨y, hy, hb⟩
      have hi : i < m := by
        refine Classical.byContradiction fun c => ?_
        rw [tb_lt (xor_lt hs (hr y hy)) (by omega)] at hb
        cases hb
      have hsome : (r.find? fun y => (s ^^^ y).testBit i).isSome = true := by
        rw [List.find?_isSome]
        exact ⟨y, hy, hb⟩
      obtain ⟨z, hz⟩ := Option.isSome_iff_exists.mp hsome
      refine ⟨z, List.mem_map.mpr ⟨i, List.mem_range.mpr hi, by rw [hz]; rfl⟩, ?_⟩
      have := List.find?_some hz
      exact this
  generalize ((pick m s r).any fun y => (s ^^^ y).testBit i) = b1 at iff ⊢
  generalize (r.any fun y => (s ^^^ y).testBit i) = b2 at iff ⊢
  cases b1 <;> cases b2 <;> simp_all
theorem keeps_all {a : Abs} {k : Nat} (h : keeps a a.m = true) : keeps a k = true := by
  rw [keeps_iff] at h ⊢
  intro s hs hl r hr b
  have hb : ∀ y ∈ r, y < 2 ^ a.m := fun y hy => reach_lt hs (hr.mem y hy)
  refine h s hs hl (pick a.m s r) ⟨?_, fun y hy => ?_⟩ ?_
  · unfold pick
    rw [List.length_map, List.length_range]
  · rcases pick_mem hy with q | q
    · exact hr.mem y q
    · rw [q]
      exact reach_here hs
  · unfold Bad at b ⊢
    rw [pick_chg hs hb]
    exact b
/-! ### fewest: the first count of copies by which it's broken -/
theorem fewest_none {a : Abs} (hm : 1 ≤ a.m) (h : (List.range (a.m + 1)).find? (fun k => decide (2 ≤ k) && !keeps a k) = none) : ∀ k, keeps a k = true := by
  intro k
  refine keeps_all ?_
  rw [List.find?_eq_none] at h
  by_cases c : a.m = 1
  · rw [c]
    exact keeps_one a
  · have := h a.m (List.mem_range.mpr (by omega))
    rw [decide_eq_true (show 2 ≤ a.m by omega), Bool.true_and] at this
    simpa using this
theorem fewest_some {a : Abs} {k : Nat} (h : (List.range (a.m + 1)).find? (fun k => decide (2 ≤ k) && !keeps a k) = some k) : 2 ≤ k ∧ k ≤ a.m ∧ keeps a k = false ∧ ∀ j, j < k → keeps a j = true := by
  have q := (find_first (R := fun x y : Nat => x < y) (fun x y h1 h2 => by omega) (rising_range (a.m + 1)) k).mp h
  have p := q.2.1
  rw [Bool.and_eq_true, decide_eq_true_eq] at p
  have hk := List.mem_range.mp q.1
  refine ⟨p.1, by omega, by simpa using p.2, fun j hj => ?_⟩
  by_cases c : j ≤ 1
  · exact keeps_le (keeps_one a) c
  · cases e : keeps a j with
    | true => rfl
    | false =>
      have := q.2.2 j (List.mem_range.mpr (by omega)) (by rw [decide_eq_true (show 2 ≤ j by omega), e]; rfl)
      rcases this with z | z
      · omega
      · have : k < j := z
        omega
/-! ### fewer deeds -/
theorem Rch.more {a b : Abs} (hm : b.m = a.m) (hr : b.rule = a.rule) (hd : ∀ d ∈ b.deeds, d ∈ a.deeds) {s t : Nat} (h : Rch b s t) : Rch a s t := by
  induction h with
  | here => exact .here
  | @go t u d _ hmem e ih =>
    refine .go ih (hd d hmem) ?_
    have : done a t d = done b t d := by
      unfold done can Kh411.let_ after
      rw [hm, hr]
    rw [this]
    exact e
theorem keeps_fewer {a b : Abs} (hm : b.m = a.m) (hr : b.rule = a.rule) (hd : ∀ d ∈ b.deeds, d ∈ a.deeds) {k : Nat} (h : keeps a k = true) : keeps b k = true := by
  rw [keeps_iff] at h ⊢
  intro s hs hl r hr' bd
  have hs' : s < 2 ^ a.m := by rw [← hm]; exact hs
  refine h s hs' (by unfold Kh411.let_ at hl ⊢; rw [← hr]; exact hl) r ⟨hr'.len, fun y hy => ?_⟩ ?_
  · exact (mem_reach hs').mpr (((mem_reach hs).mp (hr'.mem y hy)).more hm hr hd)
  · unfold Bad Kh411.let_ at bd ⊢
    rw [← hr]
    exact bd
theorem mem_only {a : Abs} {x : Nat} {d : Deed} : d ∈ (only a x).deeds ↔ ∃ i, a.deeds[i]? = some d ∧ x.testBit i = true := by
  unfold only
  dsimp only
  rw [List.mem_map]
  constructor
  · rintro ⟨⟨e, i⟩, h, rfl⟩
    rw [List.mem_filter] at h
    refine ⟨i, ?_, ?_⟩
    · have := List.mem_zipIdx_iff_getElem?.mp h.1
      exact this
    · have := h.2
      rw [has_tb] at this
      exact this
  · rintro ⟨i, hi, hx⟩
    refine ⟨(d, i), ?_, rfl⟩
    rw [List.mem_filter]
    refine ⟨List.mem_zipIdx_iff_getElem?.mpr hi, ?_⟩
    rw [has_tb]
    exact hx
theorem free_fewer {a : Abs} {x y : Nat} (h : ∀ i, x.testBit i = true → y.testBit i = true) (hy : free a y = true) : free a x = true := by
  unfold free at hy ⊢
  refine keeps_fewer (a := only a y) (b := only a x) rfl rfl (fun d hd => ?_) hy
  obtain ⟨i, hi, hx⟩ := mem_only.mp hd
  exact mem_only.mpr ⟨i, hi, h i hx⟩
/-! ### closed, open -/
theorem together_comm (m s y z : Nat) (hs : s < 2 ^ m) (hy : y < 2 ^ m) (hz : z < 2 ^ m) : together m s [y, z] = together m s [z, y] := by
  rw [together_eq hs (by simp [hy, hz]), together_eq hs (by simp [hy, hz]), chg_perm (List.Perm.swap z y [])]
theorem closed_iff {a : Abs} : closedRule a = true ↔ ∀ s y z, s < 2 ^ a.m → y < 2 ^ a.m → z < 2 ^ a.m → let_ a s = true → let_ a y = true → let_ a z = true → y ≤ z → let_ a (together a.m s [y, z]) = true := by
  unfold closedRule
  dsimp only
  have mem : ∀ t, t ∈ (states a).filter (let_ a) ↔ t < 2 ^ a.m ∧ let_ a t = true := fun t => by
    rw [List.mem_filter, mem_states]
  rw [List.all_eq_true]
  constructor
  · intro h s y z hs hy hz ls ly lz _
    have := h s ((mem s).mpr ⟨hs, ls⟩)
    rw [List.all_eq_true] at this
    have := this y ((mem y).mpr ⟨hy, ly⟩)
    rw [List.all_eq_true] at this
    exact this z ((mem z).mpr ⟨hz, lz⟩)
  · intro h s hs
    rw [List.all_eq_true]
    intro y hy
    rw [List.all_eq_true]
    intro z hz
    have hs := (mem s).mp hs
    have hy := (mem y).mp hy
    have hz := (mem z).mp hz
    by_cases c : y ≤ z
    · exact h s y z hs.1 hy.1 hz.1 hs.2 hy.2 hz.2 c
    · rw [together_comm a.m s y z hs.1 hy.1 hz.1]
      exact h s z y hs.1 hz.1 hy.1 hs.2 hz.2 hy.2 (by omega)
end Ka
-- KaTwo
namespace Ka
open Kh411
/-! ### the states that are let -/
def lets (r n : Nat) : List Nat := (List.range n).filter r.testBit
theorem lets_eq (a : Abs) : (states a).filter (let_ a) = lets a.rule (2 ^ a.m) := by
  unfold lets states
  exact List.filter_congr fun x _ => has_tb _ _
theorem mem_lets {r n x : Nat} : x ∈ lets r n ↔ x < n ∧ r.testBit x = true := by
  unfold lets
  rw [List.mem_filter, List.mem_range]
theorem lets_rising (r n : Nat) : Rising (lets r n) := rising_filter _ (rising_range _)
theorem lets_len (r n : Nat) : (lets r n).length ≤ n := rising_len (lets_rising r n) fun x hx => (mem_lets.mp hx).1
theorem lets_more {r b n : Nat} (hb : r < 2 ^ b) (hn : b ≤ n) : lets r b = lets r n := by
  refine rising_ext (lets_rising _ _) (lets_rising _ _) fun x => ?_
  rw [mem_lets, mem_lets]
  refine ⟨fun h => ⟨by omega, h.2⟩, fun h => ⟨?_, h.2⟩⟩
  refine Classical.byContradiction fun c => ?_
  have := tb_lt hb (show b ≤ x by omega)
  rw [h.2] at this
  cases this
theorem lets_succ (r n : Nat) : lets r (n + 1) = lets r n ++ (if r.testBit n = true then [n] else []) := by
  unfold lets
  rw [List.range_succ, List.filter_append]
  cases h : r.testBit n <;> simp [h]
theorem find_filter {α : Type} (p q : α → Bool) : ∀ l : List α, (l.filter p).find? q = l.find? fun x => p x && q x
  | [] => rfl
  | x :: l => by
    have ih := find_filter p q l
    cases hp : p x <;> cases hq : q x <;> simp [hp, hq, ih]
theorem fs_filter {α β : Type} (p : α → Bool) (f : α → Option β) : ∀ l : List α, (l.filter p).findSome? f = l.findSome? fun x => if p x = true then f x else none
  | [] => rfl
  | x :: l => by
    have ih := fs_filter p f l
    cases hp : p x
    · rw [List.filter_cons_of_neg (by simp [hp]), List.findSome?_cons]
      simp [hp, ih]
    · rw [List.filter_cons_of_pos hp, List.findSome?_cons, List.findSome?_cons, if_pos hp, ih]
theorem fs_congr {α β : Type} {f g : α → Option β} : ∀ {l : List α}, (∀ x ∈ l, f x = g x) → l.findSome? f = l.findSome? g
  | [], _ => rfl
  | x :: l, h => by
    rw [List.findSome?_cons, List.findSome?_cons, h x List.mem_cons_self, fs_congr fun y hy => h y (List.mem_cons_of_mem _ hy)]
theorem find_congr {α : Type} {f g : α → Bool} : ∀ {l : List α}, (∀ x ∈ l, f x = g x) → l.find? f = l.find? g
  | [], _ => rfl
  | x :: l, h => by
    rw [List.find?_cons, List.find?_cons, h x List.mem_cons_self, find_congr fun y hy => h y (List.mem_cons_of_mem _ hy)]
theorem fs_none {α β : Type} {f : α → Option β} : ∀ {l : List α}, l.findSome? f = none ↔ ∀ x ∈ l, f x = none
  | [] => by simp
  | x :: l => by
    rw [List.findSome?_cons]
    cases h : f x with
    | none => simp [h, fs_none (l := l)]
    | some y => simp [h]
theorem broken_lets (a : Abs) (k : Nat) : broken a k = (lets a.rule (2 ^ a.m)).findSome? fun s => (brokenAt a k s).map fun l => (s, l) := by
  rw [← lets_eq, fs_filter]
  unfold broken
  refine fs_congr fun s _ => ?_
  unfold brokenAt
  cases h : let_ a s <;> simp
/-! ### fewest -/
def fewestOf (a : Abs) : Option Nat := (List.range (a.m + 1)).find? fun k => decide (2 ≤ k) && !keeps a k
theorem fewest_is {a : Abs} (hm : 1 ≤ a.m) {k : Nat} (hk : keeps a k = false) (hl : ∀ j, j < k → keeps a j = true) : fewestOf a = some k := by
  cases h : fewestOf a with
  | none =>
    rw [fewest_none hm h k] at hk
    cases hk
  | some j =>
    obtain ⟨_, _, h3, h4⟩ := fewest_some h
    rcases Nat.lt_trichotomy j k with c | c | c
    · rw [hl j c] at h3
      cases h3
    · rw [c]
    · rw [h4 k c] at hk
      cases hk
theorem fewest_not {a : Abs} (h : ∀ j, j ≤ a.m → keeps a j = true) : fewestOf a = none := by
  cases e : fewestOf a with
  | none => rfl
  | some j =>
    obtain ⟨_, h2, h3, _⟩ := fewest_some e
    rw [h j h2] at h3
    cases h3
/-! ### however many copies -/
theorem keeps_whole {a : Abs} : keeps a a.m = true ↔ ∀ s, s < 2 ^ a.m → let_ a s = true → ∀ r, (∀ y ∈ r, y ∈ reach a s) → let_ a (s ^^^ chg s r) = true := by
  constructor
  · intro h s hs hl r hr
    have := keeps_iff.mp (keeps_all (k := r.length) h) s hs hl r ⟨rfl, hr⟩
    unfold Bad at this
    simpa using this
  · intro h
    rw [keeps_iff]
    intro s hs hl r hr b
    unfold Bad at b
    rw [h s hs hl r hr.mem] at b
    cases b
theorem free_keeps {a : Abs} (hm : 1 ≤ a.m) (x : Nat) : free a x = keeps (only a x) a.m := by
  unfold free
  rw [Nat.max_eq_left hm]
theorem bool_eq {x y : Bool} (h : x = true ↔ y = true) : x = y := by
  cases x <;> cases y <;> simp_all
theorem keeps_same {a b : Abs} (hm : b.m = a.m) (hr : b.rule = a.rule) (hd : ∀ d, d ∈ b.deeds ↔ d ∈ a.deeds) (k : Nat) : keeps b k = keeps a k :=
  bool_eq ⟨fun h => keeps_fewer hm.symm hr.symm (fun d hx => (hd d).mpr hx) h, fun h => keeps_fewer hm hr (fun d hx => (hd d).mp hx) h⟩
theorem free_one {a : Abs} (hm : 1 ≤ a.m) {i : Nat} {d : Deed} (h : a.deeds[i]? = some d) : free a (2 ^ i) = keeps ⟨a.m, a.rule, [d]⟩ a.m := by
  rw [free_keeps hm]
  refine keeps_same (a := ⟨a.m, a.rule, [d]⟩) (b := only a (2 ^ i)) rfl rfl (fun e => ?_) a.m
  rw [mem_only, List.mem_singleton]
  constructor
  · rintro ⟨j, hj, hb⟩
    rw [Nat.testBit_two_pow, decide_eq_true_eq] at hb
    subst hb
    rw [h] at hj
    exact (Option.some.inj hj).symm
  · rintro rfl
    exact ⟨i, h, by rw [Nat.testBit_two_pow, decide_eq_true_eq]⟩
theorem free_zero {a : Abs} (hm : 1 ≤ a.m) : free a 0 = true := by
  rw [free_keeps hm, show a.m = (only a 0).m from rfl, keeps_whole]
  intro s hs hl r hr
  have hy : ∀ y ∈ r, y = s := fun y hy => by
    have := (mem_reach hs).mp (hr y hy)
    cases this with
    | here => rfl
    | go _ hd _ =>
      obtain ⟨i, _, hb⟩ := mem_only.mp hd
      rw [Nat.zero_testBit] at hb
      cases hb
  have : chg s r = 0 := by
    refine Nat.eq_of_testBit_eq fun i => ?_
    rw [chg_tb, Nat.zero_testBit, List.any_eq_false]
    intro y h
    rw [hy y h, Nat.xor_self, Nat.zero_testBit]
    exact Bool.false_ne_true
  rw [this, Nat.xor_zero]
  exact hl
/-! ### what comes together of however many -/
def tg (s t u : Nat) : Nat := s ^^^ ((s ^^^ t) ||| (s ^^^ u))
theorem tg_chg (s t u : Nat) : s ^^^ chg s [t, u] = tg s t u := by
  show s ^^^ ((0 ||| (s ^^^ t)) ||| (s ^^^ u)) = _
  rw [Nat.zero_or]
  rfl
theorem xor_tg (s t u : Nat) : s ^^^ tg s t u = (s ^^^ t) ||| (s ^^^ u) := xor_self_xor _ _
theorem tg_here (s y : Nat) : tg s s y = y := by
  unfold tg
  rw [Nat.xor_self, Nat.zero_or, xor_self_xor]
theorem tg_row {s t : Nat} {r : List Nat} (y : Nat) (h : t = s ^^^ chg s r) : tg s t y = s ^^^ chg s (r ++ [y]) := by
  unfold tg
  rw [h, xor_self_xor, chg_snoc]
theorem tg_right (s x t y : Nat) : tg s x (tg s t y) = tg s (tg s x t) y := by
  show s ^^^ ((s ^^^ x) ||| (s ^^^ tg s t y)) = s ^^^ ((s ^^^ tg s x t) ||| (s ^^^ y))
  rw [xor_tg, xor_tg, Nat.or_assoc]
theorem tg_left (s x t y : Nat) : tg s (tg s t y) x = tg s (tg s t x) y := by
  show s ^^^ ((s ^^^ tg s t y) ||| (s ^^^ x)) = s ^^^ ((s ^^^ tg s t x) ||| (s ^^^ y))
  rw [xor_tg, xor_tg, Nat.or_assoc, Nat.or_assoc, Nat.or_comm (s ^^^ y)]
theorem tg_both (s x t y : Nat) : tg s (tg s x y) (tg s t y) = tg s (tg s x t) y := by
  show s ^^^ ((s ^^^ tg s x y) ||| (s ^^^ tg s t y)) = s ^^^ ((s ^^^ tg s x t) ||| (s ^^^ y))
  rw [xor_tg, xor_tg, xor_tg]
  congr 1
  refine Nat.eq_of_testBit_eq fun i => ?_
  simp only [Nat.testBit_or]
  cases (s ^^^ x).testBit i <;> cases (s ^^^ y).testBit i <;> cases (s ^^^ t).testBit i <;> rfl
structure TInv (s : Nat) (P F : List Nat) : Prop where
  nodup : F.Nodup
  here : s ∈ F
  row : ∀ t ∈ F, ∃ r, (∀ y ∈ r, y ∈ P) ∧ t = s ^^^ chg s r
  shut : ∀ t ∈ F, ∀ u ∈ F, tg s t u ∈ F
  all : ∀ y ∈ P, y ∈ F
/-- within the loop over what was there -/
structure TIn (s y : Nat) (F0 : List Nat) (i : Nat) (F : List Nat) : Prop where
  nodup : F.Nodup
  mem : ∀ x, x ∈ F ↔ x ∈ F0 ∨ ∃ t ∈ F0.take i, x = tg s t y
theorem TInv.start (s : Nat) : TInv s [] [s] := by
  refine ⟨List.pairwise_singleton _ s, List.mem_singleton.mpr rfl, fun t ht => ⟨[], by simp, ?_⟩, fun t ht u hu => ?_, by simp⟩
  · rw [List.mem_singleton.mp ht]
    exact (Nat.xor_zero s).symm
  · rw [List.mem_singleton.mp ht, List.mem_singleton.mp hu, tg_here]
    exact List.mem_singleton.mpr rfl
theorem TIn.start {s y : Nat} {P F : List Nat} (I : TInv s P F) : TIn s y F 0 F := ⟨I.nodup, fun x => by simp⟩
theorem TIn.old {s y i t : Nat} {F0 F : List Nat} (J : TIn s y F0 i F) (ht : F0[i]? = some t) (h : tg s t y ∈ F) : TIn s y F0 (i + 1) F := by
  refine ⟨J.nodup, fun x => ?_⟩
  rw [take_more ht]
  constructor
  · intro hx
    rcases (J.mem x).mp hx with q | ⟨u, hu, e⟩
    · exact .inl q
    · exact .inr ⟨u, List.mem_append_left _ hu, e⟩
  · rintro (q | ⟨u, hu, e⟩)
    · exact (J.mem x).mpr (.inl q)
    · rcases List.mem_append.mp hu with q | q
      · exact (J.mem x).mpr (.inr ⟨u, q, e⟩)
      · rw [e, List.mem_singleton.mp q]
        exact h
theorem TIn.new {s y i t : Nat} {F0 F : List Nat} (J : TIn s y F0 i F) (ht : F0[i]? = some t) (h : tg s t y ∉ F) : TIn s y F0 (i + 1) (F ++ [tg s t y]) := by
  refine ⟨?_, fun x => ?_⟩
  · rw [List.nodup_append]
    refine ⟨J.nodup, List.pairwise_singleton _ _, fun p hp q hq => ?_⟩
    rw [List.mem_singleton.mp hq]
    intro e
    rw [e] at hp
    exact h hp
  rw [take_more ht, List.mem_append, List.mem_singleton]
  constructor
  · rintro (hx | rfl)
    · rcases (J.mem x).mp hx with q | ⟨u, hu, e⟩
      · exact .inl q
      · exact .inr ⟨u, List.mem_append_left _ hu, e⟩
    · exact .inr ⟨t, List.mem_append_right _ (List.mem_singleton.mpr rfl), rfl⟩
  · rintro (q | ⟨u, hu, e⟩)
    · exact .inl ((J.mem x).mpr (.inl q))
    · rcases List.mem_append.mp hu with q | q
      · exact .inl ((J.mem x).mpr (.inr ⟨u, q, e⟩))
      · exact .inr (by rw [e, List.mem_singleton.mp q])
theorem TInv.skip {s y : Nat} {P F : List Nat} (I : TInv s P F) (h : y ∈ F) : TInv s (P ++ [y]) F := by
  refine ⟨I.nodup, I.here, fun t ht => ?_, I.shut, fun z hz => ?_⟩
  · obtain ⟨r, hr, e⟩ := I.row t ht
    exact ⟨r, fun y hy => List.mem_append_left _ (hr y hy), e⟩
  · rcases List.mem_append.mp hz with q | q
    · exact I.all z q
    · rw [List.mem_singleton.mp q]
      exact h
theorem TInv.next {s y : Nat} {P F0 F : List Nat} (I : TInv s P F0) (J : TIn s y F0 F0.length F) : TInv s (P ++ [y]) F := by
  have mem : ∀ x, x ∈ F ↔ x ∈ F0 ∨ ∃ t ∈ F0, x = tg s t y := fun x => by
    have := J.mem x
    rw [List.take_length] at this
    exact this
  refine ⟨J.nodup, (mem s).mpr (.inl I.here), fun t ht => ?_, fun t ht u hu => ?_, fun z hz => ?_⟩
  · rcases (mem t).mp ht with q | ⟨u, hu, e⟩
    · obtain ⟨r, hr, e⟩ := I.row t q
      exact ⟨r, fun y hy => List.mem_append_left _ (hr y hy), e⟩
    · obtain ⟨r, hr, e2⟩ := I.row u hu
      refine ⟨r ++ [y], fun z hz => ?_, by rw [e, tg_row y e2]⟩
      rcases List.mem_append.mp hz with q | q
      · exact List.mem_append_left _ (hr z q)
      · exact List.mem_append_right _ q
  · rw [mem]
    rcases (mem t).mp ht with q | ⟨t1, h1, rfl⟩ <;> rcases (mem u).mp hu with p | ⟨u1, h2, rfl⟩
    · exact .inl (I.shut t q u p)
    · exact .inr ⟨_, I.shut t q u1 h2, tg_right _ _ _ _⟩
    · exact .inr ⟨_, I.shut t1 h1 u p, tg_left _ _ _ _⟩
    · exact .inr ⟨_, I.shut t1 h1 u1 h2, tg_both _ _ _ _⟩
  · rcases List.mem_append.mp hz with q | q
    · exact (mem z).mpr (.inl (I.all z q))
    · rw [List.mem_singleton.mp q]
      exact (mem y).mpr (.inr ⟨s, I.here, (tg_here s y).symm⟩)
theorem TInv.end {s : Nat} {P F : List Nat} (I : TInv s P F) (t : Nat) : t ∈ F ↔ ∃ r, (∀ y ∈ r, y ∈ P) ∧ t = s ^^^ chg s r := by
  refine ⟨I.row t, ?_⟩
  rintro ⟨r, hr, rfl⟩
  have : ∀ r : List Nat, (∀ y ∈ r, y ∈ P) → s ^^^ chg s r.reverse ∈ F := by
    intro r
    induction r with
    | nil =>
      intro _
      show s ^^^ 0 ∈ F
      rw [Nat.xor_zero]
      exact I.here
    | cons y r ih =>
      intro h
      rw [List.reverse_cons, ← tg_row y (rfl : s ^^^ chg s r.reverse = s ^^^ chg s r.reverse)]
      exact I.shut _ (ih fun z hz => h z (List.mem_cons_of_mem _ hz)) _ (I.all y (h y List.mem_cons_self))
  have := this r.reverse fun y hy => hr y (List.mem_reverse.mp hy)
  rw [List.reverse_reverse] at this
  exact this
theorem TInv.lt {s n : Nat} {P F : List Nat} (I : TInv s P F) (hs : s < 2 ^ n) (hP : ∀ y ∈ P, y < 2 ^ n) : ∀ t ∈ F, t < 2 ^ n := fun t ht => by
  obtain ⟨r, hr, rfl⟩ := I.row t ht
  exact xor_lt hs (chg_lt hs fun y hy => hP y (hr y hy))
theorem TInv.len {s n : Nat} {P F : List Nat} (I : TInv s P F) (hs : s < 2 ^ n) (hP : ∀ y ∈ P, y < 2 ^ n) : F.length ≤ 2 ^ n := nodup_le I.nodup (I.lt hs hP)
theorem TIn.len {s n y i : Nat} {P F0 F : List Nat} (I : TInv s P F0) (J : TIn s y F0 i F) (hs : s < 2 ^ n) (hP : ∀ y ∈ P, y < 2 ^ n) (hy : y < 2 ^ n) : F.length ≤ 2 ^ n := by
  refine nodup_le J.nodup fun x hx => ?_
  rcases (J.mem x).mp hx with q | ⟨t, ht, rfl⟩
  · exact I.lt hs hP x q
  · exact xor_lt hs (or_lt (xor_lt hs (I.lt hs hP t (List.mem_of_mem_take ht))) (xor_lt hs hy))
end Ka
-- KaFree
namespace Ka
open Kh411
/-! ### sets of deeds -/
theorem sub_or {x y : Nat} : x ||| y = y ↔ x &&& y = x := by
  constructor <;> intro h
  · refine Nat.eq_of_testBit_eq fun i => ?_
    have := congrArg (fun z => z.testBit i) h
    simp only [Nat.testBit_or] at this
    rw [Nat.testBit_and]
    cases hx : x.testBit i <;> cases hy : y.testBit i <;> simp_all
  · refine Nat.eq_of_testBit_eq fun i => ?_
    have := congrArg (fun z => z.testBit i) h
    simp only [Nat.testBit_and] at this
    rw [Nat.testBit_or]
    cases hx : x.testBit i <;> cases hy : y.testBit i <;> simp_all
theorem sub_tb {x y : Nat} (h : x &&& y = x) (i : Nat) (hx : x.testBit i = true) : y.testBit i = true := by
  rw [← h, Nat.testBit_and, Bool.and_eq_true] at hx
  exact hx.2
theorem sub_of {x y : Nat} (h : ∀ i, x.testBit i = true → y.testBit i = true) : x &&& y = x := by
  refine Nat.eq_of_testBit_eq fun i => ?_
  rw [Nat.testBit_and]
  cases hx : x.testBit i with
  | false => rfl
  | true => rw [h i hx]; rfl
theorem sub_trans {x y z : Nat} (h1 : x &&& y = x) (h2 : y &&& z = y) : x &&& z = x := sub_of fun i hx => sub_tb h2 i (sub_tb h1 i hx)
theorem sub_le {x y : Nat} (h : x &&& y = x) : x ≤ y := by
  rw [← h]
  exact Nat.and_le_right
theorem sub_refl (x : Nat) : x &&& x = x := Nat.and_self x
def Most (a : Abs) (z : Nat) : Prop := z < 2 ^ a.deeds.length ∧ free a z = true ∧ ∀ y, y < 2 ^ a.deeds.length → free a y = true → z &&& y = z → y = z
theorem mem_sets {a : Abs} {x : Nat} : x ∈ sets a ↔ x < 2 ^ a.deeds.length := List.mem_range
theorem mem_freeSets {a : Abs} {x : Nat} : x ∈ freeSets a ↔ x < 2 ^ a.deeds.length ∧ free a x = true := by
  unfold freeSets
  rw [List.mem_filter, mem_sets]
theorem mem_mostFree {a : Abs} {z : Nat} : z ∈ mostFree a ↔ Most a z := by
  unfold mostFree Most
  dsimp only
  rw [List.mem_filter, mem_freeSets, List.all_eq_true]
  constructor
  · rintro ⟨⟨h1, h2⟩, h3⟩
    refine ⟨h1, h2, fun y hy hf hs => ?_⟩
    have := h3 y (mem_freeSets.mpr ⟨hy, hf⟩)
    unfold part at this
    rw [join_or h1 hy, sub_or.mpr hs] at this
    simpa using this
  · rintro ⟨h1, h2, h3⟩
    refine ⟨⟨h1, h2⟩, fun y hy => ?_⟩
    obtain ⟨hy, hf⟩ := mem_freeSets.mp hy
    unfold part
    rw [join_or h1 hy]
    by_cases c : z ||| y = y
    · rw [h3 y hy hf (sub_or.mp c)]
      simp
    · simp [c]
theorem mostFree_rising (a : Abs) : Rising (mostFree a) := rising_filter _ (rising_filter _ (rising_range _))
/-- the sets from c on are gone through -/
structure MInv (a : Abs) (c : Nat) (F : List Nat) : Prop where
  nodup : F.Nodup
  most : ∀ z ∈ F, c ≤ z ∧ Most a z
  all : ∀ y, c ≤ y → y < 2 ^ a.deeds.length → free a y = true → ∃ z ∈ F, y &&& z = y
theorem MInv.start (a : Abs) : MInv a (2 ^ a.deeds.length) [] := ⟨List.Pairwise.nil, by simp, fun y h1 h2 => by omega⟩
theorem MInv.skip {a : Abs} {c : Nat} {F : List Nat} (I : MInv a (c + 1) F) (h : (∃ z ∈ F, c &&& z = c) ∨ free a c = false) : MInv a c F := by
  refine ⟨I.nodup, fun z hz => ⟨by have := (I.most z hz).1; omega, (I.most z hz).2⟩, fun y hc hy hf => ?_⟩
  by_cases e : y = c
  · subst e
    rcases h with h | h
    · exact h
    · rw [hf] at h
      cases h
  · exact I.all y (by omega) hy hf
theorem MInv.add {a : Abs} {c : Nat} {F : List Nat} (I : MInv a (c + 1) F) (hc : c < 2 ^ a.deeds.length) (hn : ¬ ∃ z ∈ F, c &&& z = c) (hf : free a c = true) : MInv a c (F ++ [c]) := by
  refine ⟨?_, fun z hz => ?_, fun y hy hl hfy => ?_⟩
  · unfold List.Nodup
    rw [List.pairwise_append]
    refine ⟨I.nodup, List.pairwise_singleton _ _, fun p hp q hq => ?_⟩
    rw [List.mem_singleton.mp hq]
    have := (I.most p hp).1
    omega
  · rcases List.mem_append.mp hz with q | q
    · exact ⟨by have := (I.most z q).1; omega, (I.most z q).2⟩
    · rw [List.mem_singleton.mp q]
      refine ⟨Nat.le_refl _, hc, hf, fun y hy hfy hs => ?_⟩
      refine Classical.byContradiction fun ne => hn ?_
      have := sub_le hs
      obtain ⟨w, hw, hs2⟩ := I.all y (by omega) hy hfy
      exact ⟨w, hw, sub_trans hs hs2⟩
  · by_cases e : y = c
    · subst e
      exact ⟨y, List.mem_append_right _ (List.mem_singleton.mpr rfl), sub_refl _⟩
    · obtain ⟨w, hw, hs⟩ := I.all y (by omega) hl hfy
      exact ⟨w, List.mem_append_left _ hw, hs⟩
theorem MInv.mem {a : Abs} {F : List Nat} (I : MInv a 0 F) (z : Nat) : z ∈ F ↔ z ∈ mostFree a := by
  rw [mem_mostFree]
  refine ⟨fun h => (I.most z h).2, fun h => ?_⟩
  obtain ⟨w, hw, hs⟩ := I.all z (Nat.zero_le _) h.1 h.2.1
  have hm := (I.most w hw).2
  rw [← h.2.2 w hm.1 hm.2.1 hs]
  exact hw
theorem MInv.len {a : Abs} {c : Nat} {F : List Nat} (I : MInv a c F) : F.length ≤ 2 ^ a.deeds.length := nodup_le I.nodup fun x hx => (I.most x hx).2.1
theorem rising_of {l F : List Nat} (hp : l.Perm F) (hs : l.Pairwise (· ≤ ·)) (hn : F.Nodup) : Rising l := by
  have hnl : l.Nodup := hp.symm.nodup hn
  unfold Rising
  exact List.Pairwise.imp₂ (fun x y (h1 : x ≤ y) (h2 : x ≠ y) => Nat.lt_of_le_of_ne h1 h2) hs hnl
theorem MInv.finish {a : Abs} {F ys : List Nat} (I : MInv a 0 F) (hp : ys.Perm F) (hs : ys.Pairwise (· ≤ ·)) : ys = mostFree a :=
  rising_ext (rising_of hp hs I.nodup) (mostFree_rising a) fun x => by rw [hp.mem_iff, I.mem]
/-- each free set lies in one than which none is greater -/
theorem most_over {a : Abs} : ∀ (k y : Nat), 2 ^ a.deeds.length - y ≤ k → y < 2 ^ a.deeds.length → free a y = true → ∃ z, Most a z ∧ y &&& z = y := by
  intro k
  induction k with
  | zero => intro y h1 h2; omega
  | succ k ih =>
    intro y h1 h2 hf
    by_cases c : ∃ w, w < 2 ^ a.deeds.length ∧ free a w = true ∧ y &&& w = y ∧ w ≠ y
    · obtain ⟨w, hw, hfw, hs, ne⟩ := c
      have := sub_le hs
      obtain ⟨z, hz, hs2⟩ := ih w (by omega) hw hfw
      exact ⟨z, hz, sub_trans hs hs2⟩
    · refine ⟨y, ⟨h2, hf, fun w hw hfw hs => ?_⟩, sub_refl y⟩
      exact Classical.byContradiction fun ne => c ⟨w, hw, hfw, hs, ne⟩
theorem mostFree_ne {a : Abs} (hm : 1 ≤ a.m) : mostFree a ≠ [] := by
  obtain ⟨z, hz, _⟩ := most_over _ 0 (Nat.le_refl _) (Nat.two_pow_pos _) (free_zero hm)
  intro e
  have := mem_mostFree.mpr hz
  rw [e] at this
  cases this
/-! ### all others -/
def cm (n x : Nat) : Nat := (2 ^ n - 1) ^^^ x
theorem cm_tb {n x i : Nat} : (cm n x).testBit i = (decide (i < n) != x.testBit i) := by
  unfold cm
  rw [Nat.testBit_xor, Nat.testBit_two_pow_sub_one]
theorem pred_lt (n : Nat) : 2 ^ n - 1 < 2 ^ n := by
  have := Nat.two_pow_pos n
  omega
theorem cm_lt {n x : Nat} (h : x < 2 ^ n) : cm n x < 2 ^ n := xor_lt (pred_lt n) h
theorem cm_cm (n x : Nat) : cm n (cm n x) = x := xor_self_xor _ _
theorem less_cm {n x : Nat} (h : x < 2 ^ n) : less n (2 ^ n - 1) x = cm n x := by
  rw [less_xor (pred_lt n)]
  unfold cm
  congr 1
  refine Nat.eq_of_testBit_eq fun i => ?_
  rw [Nat.testBit_and, Nat.testBit_two_pow_sub_one]
  by_cases c : i < n
  · simp [c]
  · rw [tb_lt h (by omega)]
    simp
theorem size_lets (a : Abs) (x : Nat) : size a x = (lets x a.deeds.length).length := by
  unfold size lets
  congr 1
  exact List.filter_congr fun i _ => has_tb _ _
theorem size_le (a : Abs) (x : Nat) : size a x ≤ a.deeds.length := by
  rw [size_lets]
  exact lets_len _ _
theorem cm_less {a : Abs} {f g : Nat} (hf : f < 2 ^ a.deeds.length) (hg : g < 2 ^ a.deeds.length) (hs : f &&& g = f) (ne : g ≠ f) : size a (cm a.deeds.length g) < size a (cm a.deeds.length f) := by
  rw [size_lets, size_lets]
  have : ∃ i, g.testBit i = true ∧ f.testBit i = false := by
    refine Classical.byContradiction fun c => ne ?_
    refine Nat.eq_of_testBit_eq fun i => ?_
    cases hx : g.testBit i with
    | false =>
      cases hy : f.testBit i with
      | false => rfl
      | true =>
        rw [sub_tb hs i hy] at hx
        cases hx
    | true =>
      cases hy : f.testBit i with
      | true => rfl
      | false => exact absurd ⟨i, hx, hy⟩ c
  obtain ⟨i, h1, h2⟩ := this
  have hi : i < a.deeds.length := by
    refine Classical.byContradiction fun c => ?_
    rw [tb_lt hg (by omega)] at h1
    cases h1
  refine rising_len_lt (lets_rising _ _) (lets_rising _ _) (fun j hj => ?_) (y := i) ?_ ?_
  · obtain ⟨hj, hb⟩ := mem_lets.mp hj
    refine mem_lets.mpr ⟨hj, ?_⟩
    rw [cm_tb, decide_eq_true hj] at hb ⊢
    cases hy : f.testBit j with
    | false => rfl
    | true =>
      rw [sub_tb hs j hy] at hb
      cases hb
  · refine mem_lets.mpr ⟨hi, ?_⟩
    rw [cm_tb, decide_eq_true hi, h2]
    rfl
  · intro hj
    have := (mem_lets.mp hj).2
    rw [cm_tb, decide_eq_true hi, h1] at this
    cases this
def Few (a : Abs) (x : Nat) : Prop := x < 2 ^ a.deeds.length ∧ free a (cm a.deeds.length x) = true ∧ ∀ y, y < 2 ^ a.deeds.length → free a (cm a.deeds.length y) = true → size a x ≤ size a y
theorem min_fold : ∀ (l : List Nat) (b : Nat), l.foldl min b ≤ b ∧ (∀ x ∈ l, l.foldl min b ≤ x) ∧ (l.foldl min b = b ∨ l.foldl min b ∈ l)
  | [], b => ⟨Nat.le_refl _, by simp, .inl rfl⟩
  | x :: l, b => by
    obtain ⟨h1, h2, h3⟩ := min_fold l (min b x)
    rw [List.foldl_cons]
    refine ⟨by omega, fun y hy => ?_, ?_⟩
    · rcases List.mem_cons.mp hy with e | e
      · subst e
        omega
      · exact h2 y e
    · rcases h3 with e | e
      · by_cases c : b ≤ x
        · left
          rw [e]
          omega
        · right
          rw [e, Nat.min_eq_right (by omega)]
          exact List.mem_cons_self
      · right
        exact List.mem_cons_of_mem _ e
theorem mem_askedOf {a : Abs} {x : Nat} : x ∈ askedOf a ↔ Few a x := by
  unfold askedOf
  dsimp only
  have hc : ∀ y, y ∈ (sets a).filter (fun x => (freeSets a).contains (less a.deeds.length (2 ^ a.deeds.length - 1) x)) ↔ y < 2 ^ a.deeds.length ∧ free a (cm a.deeds.length y) = true := fun y => by
    rw [List.mem_filter, mem_sets, List.contains_iff_mem]
    constructor
    · rintro ⟨h1, h2⟩
      rw [less_cm h1, mem_freeSets] at h2
      exact ⟨h1, h2.2⟩
    · rintro ⟨h1, h2⟩
      rw [less_cm h1, mem_freeSets]
      exact ⟨h1, cm_lt h1, h2⟩
  generalize (sets a).filter (fun x => (freeSets a).contains (less a.deeds.length (2 ^ a.deeds.length - 1) x)) = C at hc ⊢
  obtain ⟨k1, k2, k3⟩ := min_fold (C.map (size a)) a.deeds.length
  generalize (C.map (size a)).foldl min a.deeds.length = k at k1 k2 k3 ⊢
  have hk : ∀ y ∈ C, k ≤ size a y := fun y hy => k2 _ (List.mem_map.mpr ⟨y, hy, rfl⟩)
  rw [List.mem_filter, beq_iff_eq]
  constructor
  · rintro ⟨h1, h2⟩
    obtain ⟨h3, h4⟩ := (hc x).mp h1
    refine ⟨h3, h4, fun y hy hf => ?_⟩
    rw [h2]
    exact hk y ((hc y).mpr ⟨hy, hf⟩)
  · rintro ⟨h1, h2, h3⟩
    have hx := (hc x).mpr ⟨h1, h2⟩
    refine ⟨hx, ?_⟩
    have q1 := hk x hx
    rcases k3 with e | e
    · have := size_le a x
      omega
    · obtain ⟨y, hy, e⟩ := List.mem_map.mp e
      obtain ⟨hy1, hy2⟩ := (hc y).mp hy
      have := h3 y hy1 hy2
      omega
theorem askedOf_rising (a : Abs) : Rising (askedOf a) := rising_filter _ (rising_filter _ (rising_range _))
theorem asked_min {a : Abs} {x : Nat} : Few a x ↔ (∃ f, Most a f ∧ x = cm a.deeds.length f) ∧ ∀ f, Most a f → size a x ≤ size a (cm a.deeds.length f) := by
  constructor
  · rintro ⟨h1, h2, h3⟩
    obtain ⟨z, hz, hs⟩ := most_over _ _ (Nat.le_refl _) (cm_lt h1) h2
    refine ⟨⟨z, hz, ?_⟩, fun f hf => h3 _ (cm_lt hf.1) (by rw [cm_cm]; exact hf.2.1)⟩
    by_cases c : z = cm a.deeds.length x
    · rw [c, cm_cm]
    · have := cm_less (cm_lt h1) hz.1 hs c
      rw [cm_cm] at this
      have := h3 _ (cm_lt hz.1) (by rw [cm_cm]; exact hz.2.1)
      omega
  · rintro ⟨⟨f, hf, rfl⟩, h2⟩
    refine ⟨cm_lt hf.1, by rw [cm_cm]; exact hf.2.1, fun y hy hfy => ?_⟩
    obtain ⟨z, hz, hs⟩ := most_over _ _ (Nat.le_refl _) (cm_lt hy) hfy
    have q := h2 z hz
    by_cases c : z = cm a.deeds.length y
    · rw [c, cm_cm] at q
      exact q
    · have := cm_less (cm_lt hy) hz.1 hs c
      rw [cm_cm] at this
      omega
/-- what is asked, by the greatest free sets -/
theorem asked_is {a : Abs} {k : Nat} {ys : List Nat} (hk : ∃ f ∈ mostFree a, k = size a (cm a.deeds.length f)) (hmin : ∀ f ∈ mostFree a, k ≤ size a (cm a.deeds.length f))
    (hp : ys.Perm (((mostFree a).map (cm a.deeds.length)).filter fun x => decide (size a x = k))) (hs : ys.Pairwise (· ≤ ·)) : ys = askedOf a := by
  have hn : ((mostFree a).map (cm a.deeds.length)).Nodup := by
    unfold List.Nodup
    rw [List.pairwise_map]
    refine (mostFree_rising a).imp fun {x y} (h : x < y) e => ?_
    have := congrArg (cm a.deeds.length) e
    rw [cm_cm, cm_cm] at this
    omega
  refine rising_ext (rising_of hp hs (List.Pairwise.filter _ hn)) (askedOf_rising a) fun x => ?_
  rw [hp.mem_iff, List.mem_filter, mem_askedOf, asked_min, List.mem_map, decide_eq_true_eq]
  obtain ⟨g, hg, rfl⟩ := hk
  constructor
  · rintro ⟨⟨f, hf, rfl⟩, h2⟩
    exact ⟨⟨f, mem_mostFree.mp hf, rfl⟩, fun z hz => by rw [h2]; exact hmin z (mem_mostFree.mpr hz)⟩
  · rintro ⟨⟨f, hf, rfl⟩, h2⟩
    refine ⟨⟨f, mem_mostFree.mpr hf, rfl⟩, ?_⟩
    have q1 := h2 g (mem_mostFree.mp hg)
    have q2 := hmin f (mem_mostFree.mpr hf)
    omega
theorem askedOf_ne {a : Abs} (hm : 1 ≤ a.m) : ∃ x l, askedOf a = x :: l := by
  have : ∃ x, Few a x := by
    refine Classical.byContradiction fun c => ?_
    have : ∀ (k : Nat) (x : Nat), size a x ≤ k → x < 2 ^ a.deeds.length → free a (cm a.deeds.length x) = true → False := by
      intro k
      induction k with
      | zero => intro x hk h1 h2; exact c ⟨x, h1, h2, fun y _ _ => by omega⟩
      | succ k ih =>
        intro x hk h1 h2
        by_cases q : ∃ y, y < 2 ^ a.deeds.length ∧ free a (cm a.deeds.length y) = true ∧ size a y < size a x
        · obtain ⟨y, hy, hf, hl⟩ := q
          exact ih y (by omega) hy hf
        · exact c ⟨x, h1, h2, fun y hy hf => Classical.byContradiction fun z => q ⟨y, hy, hf, by omega⟩⟩
    exact this _ (cm a.deeds.length 0) (Nat.le_refl _) (cm_lt (Nat.two_pow_pos _)) (by rw [cm_cm]; exact free_zero hm)
  obtain ⟨x, hx⟩ := this
  have hx := mem_askedOf.mpr hx
  cases e : askedOf a with
  | nil =>
    rw [e] at hx
    cases hx
  | cons y l => exact ⟨y, l, rfl⟩
/-! ### open -/
def opn (a : Abs) (L : List Nat) : Option (List Nat) := L.findSome? fun s => L.findSome? fun y => (L.find? fun z => decide (y ≤ z) && !let_ a (together a.m s [y, z])).map fun z => [s, y, z]
theorem opn_is (a : Abs) : ((states a).findSome? fun s => if let_ a s then (states a).findSome? fun y => if let_ a y then ((states a).find? fun z => decide (y ≤ z) && (let_ a z && !let_ a (together a.m s [y, z]))).map fun z => [s, y, z] else none else none) = opn a (lets a.rule (2 ^ a.m)) := by
  rw [← lets_eq]
  unfold opn
  rw [fs_filter]
  refine fs_congr fun s _ => ?_
  by_cases hs : let_ a s = true
  · rw [if_pos hs, if_pos hs, fs_filter]
    refine fs_congr fun y _ => ?_
    by_cases hy : let_ a y = true
    · rw [if_pos hy, if_pos hy, find_filter]
      congr 1
      refine find_congr fun z _ => ?_
      cases decide (y ≤ z) <;> cases let_ a z <;> simp
    · rw [if_neg hy, if_neg hy]
  · rw [if_neg hs, if_neg hs]
theorem opn_none {a : Abs} : opn a (lets a.rule (2 ^ a.m)) = none ↔ closedRule a = true := by
  have ml : ∀ x, x ∈ lets a.rule (2 ^ a.m) ↔ x < 2 ^ a.m ∧ let_ a x = true := fun x => by
    rw [mem_lets, show let_ a x = a.rule.testBit x from has_tb _ _]
  rw [closed_iff]
  unfold opn
  rw [fs_none]
  constructor
  · intro h s y z hs hy hz ls ly lz hle
    have q := fs_none.mp (h s ((ml s).mpr ⟨hs, ls⟩)) y ((ml y).mpr ⟨hy, ly⟩)
    rw [Option.map_eq_none_iff, List.find?_eq_none] at q
    have := q z ((ml z).mpr ⟨hz, lz⟩)
    rw [decide_eq_true hle] at this
    simpa using this
  · intro h s hs
    rw [fs_none]
    intro y hy
    rw [Option.map_eq_none_iff, List.find?_eq_none]
    intro z hz
    obtain ⟨h1, l1⟩ := (ml s).mp hs
    obtain ⟨h2, l2⟩ := (ml y).mp hy
    obtain ⟨h3, l3⟩ := (ml z).mp hz
    by_cases c : y ≤ z
    · rw [h s y z h1 h2 h3 l1 l2 l3 c]
      simp
    · simp [c]
/-! ### twos -/
def rowOf (n i : Nat) : List (Nat × Nat) := (List.range' i (n - i)).map fun j => (i, j)
theorem range_from (n i : Nat) : (List.range n).filter (fun j => decide (i ≤ j)) = List.range' i (n - i) := by
  refine rising_ext (rising_filter _ (rising_range _)) ?_ fun x => ?_
  · exact List.pairwise_lt_range'
  · rw [List.mem_filter, List.mem_range, decide_eq_true_eq, List.mem_range'_1]
    omega
theorem pairs_is (n : Nat) : pairs n = (List.range n).flatMap (rowOf n) := by
  unfold pairs rowOf
  congr 1
  funext i
  rw [range_from]
end Ka
-- KpText
namespace Kp
open PySem PySem.Spec PyProof.Rows L2
/-! ### the text -/
def top (i : Nat) : Stmt := PySem.Challenge.pw_keptapart_s01_answers.main.body.getD i (.Pass ⟨0, 0, 0, 0⟩)
abbrev s_Deed_init : Stmt := inClass (top 1) 0
theorem sc_Deed_init : FnScope ["self", "need", "be", "on", "off"] ["self", "need", "be", "on", "off"] (defScope s_Deed_init) := ⟨rfl, rfl, rfl, by decide +kernel, rfl, by decide +kernel, by decide +kernel⟩
abbrev s_is_in : Stmt := top 2
theorem sc_is_in : FnScope ["chosen", "number"] ["chosen", "number"] (defScope s_is_in) := ⟨rfl, rfl, rfl, by decide +kernel, rfl, by decide +kernel, by decide +kernel⟩
abbrev s_how_many_in : Stmt := top 3
theorem sc_how_many_in : FnScope ["chosen", "found", "number"] ["chosen"] (defScope s_how_many_in) := ⟨rfl, rfl, rfl, by decide +kernel, rfl, by decide +kernel, by decide +kernel⟩
abbrev s_how_many_states : Stmt := top 4
theorem sc_how_many_states : FnScope ["facts"] ["facts"] (defScope s_how_many_states) := ⟨rfl, rfl, rfl, by decide +kernel, rfl, by decide +kernel, by decide +kernel⟩
abbrev s_all_states : Stmt := top 5
theorem sc_all_states : FnScope ["facts"] ["facts"] (defScope s_all_states) := ⟨rfl, rfl, rfl, by decide +kernel, rfl, by decide +kernel, by decide +kernel⟩
abbrev s_has_other_facts : Stmt := top 6
theorem sc_has_other_facts : FnScope ["facts", "chosen"] ["facts", "chosen"] (defScope s_has_other_facts) := ⟨rfl, rfl, rfl, by decide +kernel, rfl, by decide +kernel, by decide +kernel⟩
abbrev s_has_other_states : Stmt := top 7
theorem sc_has_other_states : FnScope ["facts", "rule"] ["facts", "rule"] (defScope s_has_other_states) := ⟨rfl, rfl, rfl, by decide +kernel, rfl, by decide +kernel, by decide +kernel⟩
abbrev s_is_deed : Stmt := top 8
theorem sc_is_deed : FnScope ["facts", "deed"] ["facts", "deed"] (defScope s_is_deed) := ⟨rfl, rfl, rfl, by decide +kernel, rfl, by decide +kernel, by decide +kernel⟩
abbrev s_is_let : Stmt := top 9
theorem sc_is_let : FnScope ["rule", "s"] ["rule", "s"] (defScope s_is_let) := ⟨rfl, rfl, rfl, by decide +kernel, rfl, by decide +kernel, by decide +kernel⟩
abbrev s_states_let : Stmt := top 10
theorem sc_states_let : FnScope ["rule", "s"] ["rule"] (defScope s_states_let) := ⟨rfl, rfl, rfl, by decide +kernel, rfl, by decide +kernel, by decide +kernel⟩
abbrev s_has_what_it_needs : Stmt := top 11
theorem sc_has_what_it_needs : FnScope ["deed", "s"] ["deed", "s"] (defScope s_has_what_it_needs) := ⟨rfl, rfl, rfl, by decide +kernel, rfl, by decide +kernel, by decide +kernel⟩
abbrev s_state_after : Stmt := top 12
theorem sc_state_after : FnScope ["deed", "s"] ["deed", "s"] (defScope s_state_after) := ⟨rfl, rfl, rfl, by decide +kernel, rfl, by decide +kernel, by decide +kernel⟩
abbrev s_can_be_done : Stmt := top 13
theorem sc_can_be_done : FnScope ["rule", "deed", "s"] ["rule", "deed", "s"] (defScope s_can_be_done) := ⟨rfl, rfl, rfl, by decide +kernel, rfl, by decide +kernel, by decide +kernel⟩
abbrev s_states_reached : Stmt := top 14
theorem sc_states_reached : FnScope ["rule", "deeds", "s", "found", "waiting", "here", "deed", "there"] ["rule", "deeds", "s"] (defScope s_states_reached) := ⟨rfl, rfl, rfl, by decide +kernel, rfl, by decide +kernel, by decide +kernel⟩
abbrev s_put_together : Stmt := top 15
theorem sc_put_together : FnScope ["s", "states", "changed", "y"] ["s", "states"] (defScope s_put_together) := ⟨rfl, rfl, rfl, by decide +kernel, rfl, by decide +kernel, by decide +kernel⟩
abbrev s_first_rows : Stmt := top 16
theorem sc_first_rows : FnScope ["s", "reached", "k", "rows", "step", "longer", "changed", "y", "whole"] ["s", "reached", "k"] (defScope s_first_rows) := ⟨rfl, rfl, rfl, by decide +kernel, rfl, by decide +kernel, by decide +kernel⟩
abbrev s_first_breaking_row : Stmt := top 17
theorem sc_first_breaking_row : FnScope ["rule", "deeds", "s", "k", "rows", "changed"] ["rule", "deeds", "s", "k"] (defScope s_first_breaking_row) := ⟨rfl, rfl, rfl, by decide +kernel, rfl, by decide +kernel, by decide +kernel⟩
abbrev s_first_break : Stmt := top 18
theorem sc_first_break : FnScope ["rule", "deeds", "k", "s", "row"] ["rule", "deeds", "k"] (defScope s_first_break) := ⟨rfl, rfl, rfl, by decide +kernel, rfl, by decide +kernel, by decide +kernel⟩
abbrev s_fewest_that_break : Stmt := top 19
theorem sc_fewest_that_break : FnScope ["facts", "rule", "deeds", "k"] ["facts", "rule", "deeds"] (defScope s_fewest_that_break) := ⟨rfl, rfl, rfl, by decide +kernel, rfl, by decide +kernel, by decide +kernel⟩
abbrev s_first_clash : Stmt := top 20
theorem sc_first_clash : FnScope ["rule", "one", "other", "s"] ["rule", "one", "other"] (defScope s_first_clash) := ⟨rfl, rfl, rfl, by decide +kernel, rfl, by decide +kernel, by decide +kernel⟩
abbrev s_twos_that_clash : Stmt := top 21
theorem sc_twos_that_clash : FnScope ["rule", "deeds", "found", "i", "j"] ["rule", "deeds"] (defScope s_twos_that_clash) := ⟨rfl, rfl, rfl, by decide +kernel, rfl, by decide +kernel, by decide +kernel⟩
abbrev s_states_together : Stmt := top 22
theorem sc_states_together : FnScope ["s", "reached", "found", "y", "there"] ["s", "reached"] (defScope s_states_together) := ⟨rfl, rfl, rfl, by decide +kernel, rfl, by decide +kernel, by decide +kernel⟩
abbrev s_are_free : Stmt := top 23
theorem sc_are_free : FnScope ["rule", "deeds", "s", "y"] ["rule", "deeds"] (defScope s_are_free) := ⟨rfl, rfl, rfl, by decide +kernel, rfl, by decide +kernel, by decide +kernel⟩
abbrev s_all_deeds : Stmt := top 24
theorem sc_all_deeds : FnScope ["deeds"] ["deeds"] (defScope s_all_deeds) := ⟨rfl, rfl, rfl, by decide +kernel, rfl, by decide +kernel, by decide +kernel⟩
abbrev s_has_other_deeds : Stmt := top 25
theorem sc_has_other_deeds : FnScope ["deeds", "chosen"] ["deeds", "chosen"] (defScope s_has_other_deeds) := ⟨rfl, rfl, rfl, by decide +kernel, rfl, by decide +kernel, by decide +kernel⟩
abbrev s_deeds_in : Stmt := top 26
theorem sc_deeds_in : FnScope ["deeds", "chosen", "i"] ["deeds", "chosen"] (defScope s_deeds_in) := ⟨rfl, rfl, rfl, by decide +kernel, rfl, by decide +kernel, by decide +kernel⟩
abbrev s_lies_in_one : Stmt := top 27
theorem sc_lies_in_one : FnScope ["chosen", "others", "other"] ["chosen", "others"] (defScope s_lies_in_one) := ⟨rfl, rfl, rfl, by decide +kernel, rfl, by decide +kernel, by decide +kernel⟩
abbrev s_most_free_sets : Stmt := top 28
theorem sc_most_free_sets : FnScope ["rule", "deeds", "found", "chosen"] ["rule", "deeds"] (defScope s_most_free_sets) := ⟨rfl, rfl, rfl, by decide +kernel, rfl, by decide +kernel, by decide +kernel⟩
abbrev s_fewest_asked_sets : Stmt := top 29
theorem sc_fewest_asked_sets : FnScope ["rule", "deeds", "asked", "fewest", "chosen"] ["rule", "deeds"] (defScope s_fewest_asked_sets) := ⟨rfl, rfl, rfl, by decide +kernel, rfl, by decide +kernel, by decide +kernel⟩
abbrev s_first_opening : Stmt := top 30
theorem sc_first_opening : FnScope ["rule", "let", "s", "y", "z"] ["rule"] (defScope s_first_opening) := ⟨rfl, rfl, rfl, by decide +kernel, rfl, by decide +kernel, by decide +kernel⟩
abbrev s_Copies_init : Stmt := inClass (top 47) 0
theorem sc_Copies_init : FnScope ["self"] ["self"] (defScope s_Copies_init) := ⟨rfl, rfl, rfl, by decide +kernel, rfl, by decide +kernel, by decide +kernel⟩
abbrev s_is_begun : Stmt := top 48
theorem sc_is_begun : FnScope ["held"] ["held"] (defScope s_is_begun) := ⟨rfl, rfl, rfl, by decide +kernel, rfl, by decide +kernel, by decide +kernel⟩
abbrev s_has_deed : Stmt := top 49
theorem sc_has_deed : FnScope ["held", "i"] ["held", "i"] (defScope s_has_deed) := ⟨rfl, rfl, rfl, by decide +kernel, rfl, by decide +kernel, by decide +kernel⟩
abbrev s_is_state : Stmt := top 50
theorem sc_is_state : FnScope ["held", "s"] ["held", "s"] (defScope s_is_state) := ⟨rfl, rfl, rfl, by decide +kernel, rfl, by decide +kernel, by decide +kernel⟩
abbrev s_is_count_of_copies : Stmt := top 51
theorem sc_is_count_of_copies : FnScope ["k"] ["k"] (defScope s_is_count_of_copies) := ⟨rfl, rfl, rfl, by decide +kernel, rfl, by decide +kernel, by decide +kernel⟩
abbrev s_yes_or_no : Stmt := top 52
theorem sc_yes_or_no : FnScope ["so"] ["so"] (defScope s_yes_or_no) := ⟨rfl, rfl, rfl, by decide +kernel, rfl, by decide +kernel, by decide +kernel⟩
abbrev s_answer_begin : Stmt := top 53
theorem sc_answer_begin : FnScope ["held", "told", "facts"] ["held", "told"] (defScope s_answer_begin) := ⟨rfl, rfl, rfl, by decide +kernel, rfl, by decide +kernel, by decide +kernel⟩
abbrev s_answer_rule : Stmt := top 54
theorem sc_answer_rule : FnScope ["held", "told"] ["held", "told"] (defScope s_answer_rule) := ⟨rfl, rfl, rfl, by decide +kernel, rfl, by decide +kernel, by decide +kernel⟩
abbrev s_answer_deed : Stmt := top 55
theorem sc_answer_deed : FnScope ["held", "told", "deed"] ["held", "told"] (defScope s_answer_deed) := ⟨rfl, rfl, rfl, by decide +kernel, rfl, by decide +kernel, by decide +kernel⟩
abbrev s_answer_drop : Stmt := top 56
theorem sc_answer_drop : FnScope ["held", "told"] ["held", "told"] (defScope s_answer_drop) := ⟨rfl, rfl, rfl, by decide +kernel, rfl, by decide +kernel, by decide +kernel⟩
abbrev s_answer_deed_is : Stmt := top 57
theorem sc_answer_deed_is : FnScope ["held", "told", "deed"] ["held", "told"] (defScope s_answer_deed_is) := ⟨rfl, rfl, rfl, by decide +kernel, rfl, by decide +kernel, by decide +kernel⟩
abbrev s_answer_let : Stmt := top 58
theorem sc_answer_let : FnScope ["held", "told"] ["held", "told"] (defScope s_answer_let) := ⟨rfl, rfl, rfl, by decide +kernel, rfl, by decide +kernel, by decide +kernel⟩
abbrev s_answer_does : Stmt := top 59
theorem sc_answer_does : FnScope ["held", "told", "s", "deed"] ["held", "told"] (defScope s_answer_does) := ⟨rfl, rfl, rfl, by decide +kernel, rfl, by decide +kernel, by decide +kernel⟩
abbrev s_answer_reach : Stmt := top 60
theorem sc_answer_reach : FnScope ["held", "told", "reached"] ["held", "told"] (defScope s_answer_reach) := ⟨rfl, rfl, rfl, by decide +kernel, rfl, by decide +kernel, by decide +kernel⟩
abbrev s_answer_together : Stmt := top 61
theorem sc_answer_together : FnScope ["held", "told", "s", "states", "y"] ["held", "told"] (defScope s_answer_together) := ⟨rfl, rfl, rfl, by decide +kernel, rfl, by decide +kernel, by decide +kernel⟩
abbrev s_answer_keeps : Stmt := top 62
theorem sc_answer_keeps : FnScope ["held", "told"] ["held", "told"] (defScope s_answer_keeps) := ⟨rfl, rfl, rfl, by decide +kernel, rfl, by decide +kernel, by decide +kernel⟩
abbrev s_answer_broken : Stmt := top 63
theorem sc_answer_broken : FnScope ["held", "told", "found"] ["held", "told"] (defScope s_answer_broken) := ⟨rfl, rfl, rfl, by decide +kernel, rfl, by decide +kernel, by decide +kernel⟩
abbrev s_answer_fewest : Stmt := top 64
theorem sc_answer_fewest : FnScope ["held", "told", "fewest"] ["held", "told"] (defScope s_answer_fewest) := ⟨rfl, rfl, rfl, by decide +kernel, rfl, by decide +kernel, by decide +kernel⟩
abbrev s_answer_broken_at : Stmt := top 65
theorem sc_answer_broken_at : FnScope ["held", "told", "k", "s", "row"] ["held", "told"] (defScope s_answer_broken_at) := ⟨rfl, rfl, rfl, by decide +kernel, rfl, by decide +kernel, by decide +kernel⟩
abbrev s_answer_clash : Stmt := top 66
theorem sc_answer_clash : FnScope ["held", "told", "found"] ["held", "told"] (defScope s_answer_clash) := ⟨rfl, rfl, rfl, by decide +kernel, rfl, by decide +kernel, by decide +kernel⟩
abbrev s_answer_clashes : Stmt := top 67
theorem sc_answer_clashes : FnScope ["held", "told", "twos", "answer", "two"] ["held", "told"] (defScope s_answer_clashes) := ⟨rfl, rfl, rfl, by decide +kernel, rfl, by decide +kernel, by decide +kernel⟩
abbrev s_answer_free : Stmt := top 68
theorem sc_answer_free : FnScope ["held", "told"] ["held", "told"] (defScope s_answer_free) := ⟨rfl, rfl, rfl, by decide +kernel, rfl, by decide +kernel, by decide +kernel⟩
abbrev s_answer_most_free : Stmt := top 69
theorem sc_answer_most_free : FnScope ["held", "told", "found"] ["held", "told"] (defScope s_answer_most_free) := ⟨rfl, rfl, rfl, by decide +kernel, rfl, by decide +kernel, by decide +kernel⟩
abbrev s_answer_asked : Stmt := top 70
theorem sc_answer_asked : FnScope ["held", "told", "found"] ["held", "told"] (defScope s_answer_asked) := ⟨rfl, rfl, rfl, by decide +kernel, rfl, by decide +kernel, by decide +kernel⟩
abbrev s_answer_alone : Stmt := top 71
theorem sc_answer_alone : FnScope ["held", "told"] ["held", "told"] (defScope s_answer_alone) := ⟨rfl, rfl, rfl, by decide +kernel, rfl, by decide +kernel, by decide +kernel⟩
abbrev s_answer_closed : Stmt := top 72
theorem sc_answer_closed : FnScope ["held", "told"] ["held", "told"] (defScope s_answer_closed) := ⟨rfl, rfl, rfl, by decide +kernel, rfl, by decide +kernel, by decide +kernel⟩
abbrev s_answer_open_states : Stmt := top 73
theorem sc_answer_open_states : FnScope ["held", "told", "found"] ["held", "told"] (defScope s_answer_open_states) := ⟨rfl, rfl, rfl, by decide +kernel, rfl, by decide +kernel, by decide +kernel⟩
abbrev s_answer_state : Stmt := top 74
theorem sc_answer_state : FnScope ["held", "told"] ["held", "told"] (defScope s_answer_state) := ⟨rfl, rfl, rfl, by decide +kernel, rfl, by decide +kernel, by decide +kernel⟩
abbrev s_call_end : Stmt := top 76
theorem sc_call_end : FnScope ["calls", "at", "end"] ["calls", "at"] (defScope s_call_end) := ⟨rfl, rfl, rfl, by decide +kernel, rfl, by decide +kernel, by decide +kernel⟩
abbrev s_answer_call : Stmt := top 77
theorem sc_answer_call : FnScope ["held", "number", "told", "answer"] ["held", "number", "told"] (defScope s_answer_call) := ⟨rfl, rfl, rfl, by decide +kernel, rfl, by decide +kernel, by decide +kernel⟩
abbrev s_answers : Stmt := top 78
theorem sc_answers : FnScope ["calls", "held", "given", "at", "end", "answer"] ["calls"] (defScope s_answers) := ⟨rfl, rfl, rfl, by decide +kernel, rfl, by decide +kernel, by decide +kernel⟩
end Kp
-- KpBase
namespace Kp
open PySem PySem.Spec PyProof.Rows L2
open Kh411 (Deed Abs)
/-! ### a def of the text, and that it keeps a promise -/
def Df (K : PySem.W.Frag) (mg : Str → Option Value) (x : Str) (ps : List Str) (st : Stmt) : Prop :=
  ∃ f fd, Fun K x x st f fd ∧ mg x = some (.ref f) ∧ Binds K fd ps []
def Ok (P : Program) (w : World) (K : PySem.W.Frag) (mg : Str → Option Value) (base : Heap) (x : Str) (ps : List Str) (k : Nat) (sp : Sp) : Prop :=
  ∃ f fd, FnOk P w K mg base CX0 k f fd ps sp ∧ mg x = some (.ref f) ∧ PySem.W.keepIn K (.ref f) = true ∧ Binds K fd ps []
section
variable {P : Program} {w : World} {K : PySem.W.Frag} {mg : Str → Option Value} {base : Heap}
theorem Ok.mk {x : Str} {ps N : List Str} {st : Stmt} {k : Nat} {sp : Sp} (D : Df K mg x ps st) (S : FnScope N ps (defScope st)) (len : ∀ vs H Q E, sp vs H Q E → vs.length = ps.length)
    (hbody : ∀ (f : Addr) (cdv : Value) (A : Around) (outer : List Env) (s : Shared) (H : Hp) (vs : List V) (Q : VK) (E : XK), Room k (A.deeper (envOfC x (defScope st) s.heap.objs.size f cdv)) → sp vs H Q E →
      ∃ t, PSs (cxOf CX0 P w K mg base N x (defScope st) f cdv A outer s H E).nox (defBody st) t ∧ t { nx := fun _ H' => Q .non H', rt := Q } (start N vs) H) : Ok P w K mg base x ps (k + 1) sp := by
  obtain ⟨f, fd, F, g, b⟩ := D
  exact ⟨f, fd, F.ok S len (hbody f), g, F.kp, b⟩
end
/-! ### answers as they are wanted -/
theorem qi {Q : VK} {H : Hp} {x y : Int} (e : x = y) (h : Q (.int y) H) : Q (.int x) H := e ▸ h
theorem qb {Q : VK} {H : Hp} {x y : Bool} (e : x = y) (h : Q (.bl y) H) : Q (.bl x) H := e ▸ h
theorem dec_int (x y : Int) : decide (V.int x = V.int y) = decide (x = y) := by
  by_cases h : x = y
  · rw [h, decide_eq_true rfl, decide_eq_true rfl]
  · rw [decide_eq_false h, decide_eq_false fun z => h (V.int.inj z)]
theorem set_name {i : Nat} {v : V} {σ : L2.St} {H : Hp} {Q : L2.St → Hp → Prop} (h : Q (σ.set i (some v)) H) : gName i v σ H Q := h
theorem seq_while {c : TT} {tb u : TS} {D : Ends} {σ : L2.St} {H : Hp} (h : tWhile c tb { D with nx := u D } σ H) : tSeq (tWhile c tb) u D σ H := h
theorem seq_for {wi : TI} {g : TG} {tb u : TS} {D : Ends} {σ : L2.St} {H : Hp} (h : tFor wi g tb { D with nx := u D } σ H) : tSeq (tFor wi g tb) u D σ H := h
/-! ### bits of whole numbers that are not below 0 -/
theorem b_and (x y : Nat) : Builtin.bitAnd (x : Int) (y : Int) = ((x &&& y : Nat) : Int) := by
  rw [bitAnd_pp (Int.natCast_nonneg x) (Int.natCast_nonneg y)]
  rfl
theorem b_or (x y : Nat) : Builtin.bitOr (x : Int) (y : Int) = ((x ||| y : Nat) : Int) := by
  rw [Bits.bitOr_pp (Int.natCast_nonneg x) (Int.natCast_nonneg y)]
  rfl
theorem b_xor (x y : Nat) : Builtin.bitXor (x : Int) (y : Int) = ((x ^^^ y : Nat) : Int) := by
  rw [Bits.bitXor_pp (Int.natCast_nonneg x) (Int.natCast_nonneg y)]
  rfl
theorem b_andnot (x y : Nat) : Builtin.bitAnd (x : Int) (Builtin.bitNot (y : Int)) = ((x - (x &&& y) : Nat) : Int) := by
  have hn : ¬ 0 ≤ Builtin.bitNot (y : Int) := by
    rw [bitNot_nonneg]
    exact fun h => h (Int.natCast_nonneg y)
  rw [bitAnd_pn (Int.natCast_nonneg x) hn, bitNot_bitNot]
  show (x : Int) - ((x &&& y : Nat) : Int) = _
  have : x &&& y ≤ x := Nat.and_le_left
  omega
theorem b_shr (x y : Nat) : (x : Int) / 2 ^ (y : Int).toNat = ((x / 2 ^ y : Nat) : Int) := by
  show (x : Int) / 2 ^ y = _
  rw [Int.natCast_ediv, Int.natCast_pow]
  rfl
theorem b_shl (y : Nat) : (1 : Int) * 2 ^ (y : Int).toNat = ((2 ^ y : Nat) : Int) := by
  show (1 : Int) * 2 ^ y = _
  rw [Int.one_mul, Int.natCast_pow]
  rfl
theorem dec_nat (x y : Nat) : decide ((x : Int) = (y : Int)) = decide (x = y) := by
  by_cases h : x = y
  · rw [h, decide_eq_true rfl, decide_eq_true rfl]
  · rw [decide_eq_false h, decide_eq_false (by omega)]
theorem let_bit (r s : Nat) : decide (V.int (Builtin.bitAnd ((r : Int) / 2 ^ (s : Int).toNat) 1) = V.int 1) = r.testBit s := by
  rw [dec_int, b_shr]
  show decide (Builtin.bitAnd ((r / 2 ^ s : Nat) : Int) ((1 : Nat) : Int) = ((1 : Nat) : Int)) = _
  rw [b_and, dec_nat, Nat.and_one_is_mod, Nat.testBit_eq_decide_div_mod_eq]
/-! ### deeds in the heap -/
def dF (d : Deed) : List (Str × V) := [("need", .int d.need), ("be", .int d.be), ("on", .int d.on), ("off", .int d.off)]
def DeedAt (C : Addr) (H : Hp) (p : Addr) (d : Deed) : Prop := ∃ dx, H p = some (.ins C dx (dF d))
theorem lk_here {k : Str} {v : V} {r : List (Str × V)} : List.lookup k ((k, v) :: r) = some v := by
  have e : (k == k) = true := beq_self_eq_true k
  simp only [List.lookup, e]
theorem lk_past {k g : Str} {v : V} {r : List (Str × V)} (h : (k == g) = false) : List.lookup k ((g, v) :: r) = List.lookup k r := by
  simp only [List.lookup, h]
theorem put_here {f : Str} {v x : V} {r : List (Str × V)} : putF f v ((f, x) :: r) = (f, v) :: r := if_pos rfl
theorem put_past {f g : Str} {v x : V} {r : List (Str × V)} (h : ¬ g = f) : putF f v ((g, x) :: r) = (g, x) :: putF f v r := if_neg h
theorem dF_need (d : Deed) : (dF d).lookup ("need" : Str) = some (.int d.need) := lk_here
theorem dF_be (d : Deed) : (dF d).lookup ("be" : Str) = some (.int d.be) := (lk_past (by decide +kernel)).trans lk_here
theorem dF_on (d : Deed) : (dF d).lookup ("on" : Str) = some (.int d.on) := (lk_past (by decide +kernel)).trans ((lk_past (by decide +kernel)).trans lk_here)
theorem dF_off (d : Deed) : (dF d).lookup ("off" : Str) = some (.int d.off) := (lk_past (by decide +kernel)).trans ((lk_past (by decide +kernel)).trans ((lk_past (by decide +kernel)).trans lk_here))
theorem dF_new (d : Deed) : putF "off" (.int d.off) (putF "on" (.int d.on) (putF "be" (.int d.be) (putF "need" (.int d.need) []))) = dF d := by
  have e2 : putF "be" (.int d.be) (putF "need" (.int d.need) []) = [(("need" : Str), V.int d.need), (("be" : Str), V.int d.be)] := put_past (by decide +kernel)
  have e3 : putF "on" (.int d.on) [(("need" : Str), V.int d.need), (("be" : Str), V.int d.be)] = [(("need" : Str), V.int d.need), (("be" : Str), V.int d.be), (("on" : Str), V.int d.on)] := (put_past (by decide +kernel)).trans (congrArg _ (put_past (by decide +kernel)))
  rw [e2, e3]
  exact (put_past (by decide +kernel)).trans (congrArg _ ((put_past (by decide +kernel)).trans (congrArg _ (put_past (by decide +kernel)))))
/-- the classes' facts -/
structure CT (K : PySem.W.Frag) (C : Addr) : Prop where
  cl : Cls K C
  need : NoAttr K C "need"
  be : NoAttr K C "be"
  on : NoAttr K C "on"
  off : NoAttr K C "off"
def DeedsAt (C : Addr) (H : Hp) : List Addr → List Deed → Prop
  | [], [] => True
  | p :: ps, d :: l => DeedAt C H p d ∧ DeedsAt C H ps l
  | _, _ => False
theorem DeedAt.same {C : Addr} {H H' : Hp} {p : Addr} {d : Deed} (s : Same H H') (h : DeedAt C H p d) : DeedAt C H' p d := h.elim fun dx e => ⟨dx, s _ _ e⟩
theorem DeedsAt.same {C : Addr} {H H' : Hp} (s : Same H H') : ∀ {ps : List Addr} {l : List Deed}, DeedsAt C H ps l → DeedsAt C H' ps l
  | [], [], _ => trivial
  | _ :: _, _ :: _, h => ⟨h.1.same s, h.2.same s⟩
  | [], _ :: _, h => h.elim
  | _ :: _, [], h => h.elim
theorem DeedsAt.len {C : Addr} {H : Hp} : ∀ {ps : List Addr} {l : List Deed}, DeedsAt C H ps l → ps.length = l.length
  | [], [], _ => rfl
  | _ :: _, _ :: _, h => congrArg (· + 1) h.2.len
  | [], _ :: _, h => h.elim
  | _ :: _, [], h => h.elim
theorem DeedsAt.get {C : Addr} {H : Hp} : ∀ {ps : List Addr} {l : List Deed}, DeedsAt C H ps l → ∀ {i : Nat} {p : Addr}, ps[i]? = some p → ∃ d, l[i]? = some d ∧ DeedAt C H p d
  | p :: ps, d :: l, h, 0, q, e => by
    cases e
    exact ⟨d, rfl, h.1⟩
  | _ :: ps, _ :: l, h, i + 1, q, e => h.2.get (i := i) e
  | [], [], _, _, _, e => by cases e
  | [], _ :: _, h, _, _, _ => h.elim
  | _ :: _, [], h, _, _, _ => h.elim
theorem DeedsAt.app {C : Addr} {H : Hp} {p : Addr} {d : Deed} (hp : DeedAt C H p d) : ∀ {ps : List Addr} {l : List Deed}, DeedsAt C H ps l → DeedsAt C H (ps ++ [p]) (l ++ [d])
  | [], [], _ => ⟨hp, trivial⟩
  | _ :: _, _ :: _, h => ⟨h.1, h.2.app hp⟩
  | [], _ :: _, h => h.elim
  | _ :: _, [], h => h.elim
theorem DeedsAt.erase {C : Addr} {H : Hp} : ∀ {ps : List Addr} {l : List Deed}, DeedsAt C H ps l → ∀ i : Nat, DeedsAt C H (ps.eraseIdx i) (l.eraseIdx i)
  | [], [], _, _ => trivial
  | _ :: _, _ :: _, h, 0 => h.2
  | _ :: _, _ :: _, h, i + 1 => ⟨h.1, h.2.erase i⟩
  | [], _ :: _, h, _ => h.elim
  | _ :: _, [], h, _ => h.elim
/-- a list of whole numbers as values -/
def nV (l : List Nat) : List V := l.map fun n : Nat => V.int (n : Int)
/-! ### what the defs of states.py make -/
def aft (d : Deed) (s : Nat) : Nat := (s ||| d.on) - ((s ||| d.on) &&& d.off)
def hasNeed (d : Deed) (s : Nat) : Bool := decide (s &&& d.need = d.be)
def canDo (r : Nat) (d : Deed) (s : Nat) : Bool := hasNeed d s && r.testBit (aft d s)
def spHow : Sp := fun vs H Q _ => ∃ m : Nat, vs = [.int (m : Int)] ∧ m ≤ 16 ∧ Q (.int ((2 ^ m : Nat) : Int)) H
def spAll : Sp := fun vs H Q _ => ∃ m : Nat, vs = [.int (m : Int)] ∧ m ≤ 4 ∧ Q (.int ((2 ^ 2 ^ m - 1 : Nat) : Int)) H
def spOtherF : Sp := fun vs H Q _ => ∃ m c : Nat, vs = [.int (m : Int), .int (c : Int)] ∧ m ≤ 4 ∧ Q (.bl (decide (2 ^ m ≤ c))) H
def spOtherS : Sp := fun vs H Q _ => ∃ m r : Nat, vs = [.int (m : Int), .int (r : Int)] ∧ m ≤ 4 ∧ Q (.bl (decide (2 ^ 2 ^ m ≤ r))) H
def spLet : Sp := fun vs H Q _ => ∃ r s : Nat, vs = [.int (r : Int), .int (s : Int)] ∧ Q (.bl (r.testBit s)) H
def spNeeds (C : Addr) : Sp := fun vs H Q _ => ∃ (p : Addr) (d : Deed) (s : Nat), vs = [.ref p, .int (s : Int)] ∧ DeedAt C H p d ∧ Q (.bl (hasNeed d s)) H
def spAfter (C : Addr) : Sp := fun vs H Q _ => ∃ (p : Addr) (d : Deed) (s : Nat), vs = [.ref p, .int (s : Int)] ∧ DeedAt C H p d ∧ Q (.int (aft d s : Nat)) H
def spCan (C : Addr) : Sp := fun vs H Q _ => ∃ (r : Nat) (p : Addr) (d : Deed) (s : Nat), vs = [.int (r : Int), .ref p, .int (s : Int)] ∧ DeedAt C H p d ∧ Q (.bl (canDo r d s)) H
section
variable {P : Program} {w : World} {K : PySem.W.Frag} {mg : Str → Option Value} {base : Heap} {C : Addr}
theorem ok_how (D : Df K mg "how_many_states" ["facts"] s_how_many_states) : Ok P w K mg base "how_many_states" ["facts"] 1 spHow := by
  refine Ok.mk D sc_how_many_states (fun vs H Q E h => ?_) (fun f cdv A outer s H vs Q E hr h => ?_)
  · obtain ⟨m, rfl, _⟩ := h
    rfl
  · obtain ⟨m, rfl, hm, hQ⟩ := h
    refine ⟨_, (pss_one (ps_ret (pe_op op_shl pe_int (pv 0)))), ?_⟩
    refine ⟨_, rfl, _, _, rfl, rfl, ⟨by omega, by omega, by decide⟩, ?_⟩
    exact qi (b_shl m) hQ
theorem ok_all (D : Df K mg "all_states" ["facts"] s_all_states) (O1 : Ok P w K mg base "how_many_states" ["facts"] 1 spHow) : Ok P w K mg base "all_states" ["facts"] 2 spAll := by
  obtain ⟨f_how_many_states, fd1, G_how_many_states, g_how_many_states, k_how_many_states, b_how_many_states⟩ := O1
  refine Ok.mk D sc_all_states (fun vs H Q E h => ?_) (fun f cdv A outer s H vs Q E hr h => ?_)
  · obtain ⟨m, rfl, _⟩ := h
    rfl
  · obtain ⟨m, rfl, hm, hQ⟩ := h
    have hr_how_many_states : Room 1 _ := hr
    refine ⟨_, (pss_one (ps_ret (pe_op op_sub (pe_op op_shl pe_int (pe_call G_how_many_states hr_how_many_states rfl g_how_many_states k_how_many_states b_how_many_states .nil pass0 (pa_cons (pv 0) pa_nil))) pe_int))), ?_⟩
    have hp : 2 ^ m ≤ 16 := Nat.le_trans (Nat.pow_le_pow_right (by decide) hm) (by decide)
    refine ⟨_, rfl, m, rfl, by omega, _, _, rfl, rfl, ⟨Int.natCast_nonneg _, by have : ((2 ^ m : Nat) : Int) ≤ 16 := Int.ofNat_le.mpr hp; omega, by decide⟩, _, _, rfl, rfl, ?_⟩
    refine qi ?_ hQ
    rw [b_shl]
    have : 1 ≤ 2 ^ 2 ^ m := Nat.one_le_two_pow
    omega
theorem ok_isin (D : Df K mg "is_in" ["chosen", "number"] s_is_in) : Ok P w K mg base "is_in" ["chosen", "number"] 1 spLet := by
  refine Ok.mk D sc_is_in (fun vs H Q E h => ?_) (fun f cdv A outer s H vs Q E hr h => ?_)
  · obtain ⟨r, s, rfl, _⟩ := h
    rfl
  · obtain ⟨r, z, rfl, hQ⟩ := h
    refine ⟨_, (pss_one (ps_ret (pe_cmpR op_eq (pe_op op_and (pe_op op_shr (pv 0) (pv 1)) pe_int) pe_int (nomark _)))), ?_⟩
    refine ⟨_, rfl, _, rfl, _, _, rfl, rfl, by omega, _, _, rfl, rfl, rfl, ?_⟩
    exact qb (let_bit r z) hQ
theorem ok_let (D : Df K mg "is_let" ["rule", "s"] s_is_let) (O1 : Ok P w K mg base "is_in" ["chosen", "number"] 1 spLet) : Ok P w K mg base "is_let" ["rule", "s"] 2 spLet := by
  obtain ⟨f_is_in, fd1, G_is_in, g_is_in, k_is_in, b_is_in⟩ := O1
  refine Ok.mk D sc_is_let (fun vs H Q E h => ?_) (fun f cdv A outer s H vs Q E hr h => ?_)
  · obtain ⟨r, s, rfl, _⟩ := h
    rfl
  · obtain ⟨r, z, rfl, hQ⟩ := h
    refine ⟨_, (pss_one (ps_ret (pe_call G_is_in hr rfl g_is_in k_is_in b_is_in .nil pass0 (pa_cons (pv 0) (pa_cons (pv 1) pa_nil))))), ?_⟩
    exact ⟨_, rfl, _, rfl, r, z, rfl, hQ⟩
theorem ok_needs (D : Df K mg "has_what_it_needs" ["deed", "s"] s_has_what_it_needs) (T : CT K C) : Ok P w K mg base "has_what_it_needs" ["deed", "s"] 1 (spNeeds C) := by
  refine Ok.mk D sc_has_what_it_needs (fun vs H Q E h => ?_) (fun f cdv A outer s H vs Q E hr h => ?_)
  · obtain ⟨p, d, s, rfl, _⟩ := h
    rfl
  · obtain ⟨p, d, z, rfl, ⟨dx, hp⟩, hQ⟩ := h
    refine ⟨_, (pss_one (ps_ret (pe_cmpR op_eq (pe_op op_and (pv 1) (pe_fld (pv 0) rfl)) (pe_fld (pv 0) rfl) (nomark _)))), ?_⟩
    refine ⟨_, rfl, _, rfl, p, C, dx, _, _, rfl, hp, T.cl, T.need, dF_need d, _, _, rfl, rfl, _, rfl, p, C, dx, _, _, rfl, hp, T.cl, T.be, dF_be d, rfl, ?_⟩
    refine qb ?_ hQ
    rw [dec_int, b_and, dec_nat]
    rfl
theorem ok_after (D : Df K mg "state_after" ["deed", "s"] s_state_after) (T : CT K C) : Ok P w K mg base "state_after" ["deed", "s"] 1 (spAfter C) := by
  refine Ok.mk D sc_state_after (fun vs H Q E h => ?_) (fun f cdv A outer s H vs Q E hr h => ?_)
  · obtain ⟨p, d, s, rfl, _⟩ := h
    rfl
  · obtain ⟨p, d, z, rfl, ⟨dx, hp⟩, hQ⟩ := h
    refine ⟨_, (pss_one (ps_ret (pe_op op_and (pe_op op_or (pv 1) (pe_fld (pv 0) rfl)) (pe_un un_inv (pe_fld (pv 0) rfl))))), ?_⟩
    refine ⟨_, rfl, _, rfl, p, C, dx, _, _, rfl, hp, T.cl, T.on, dF_on d, _, _, rfl, rfl, _, rfl, p, C, dx, _, _, rfl, hp, T.cl, T.off, dF_off d, _, rfl, _, _, rfl, rfl, ?_⟩
    refine qi ?_ hQ
    rw [b_or, b_andnot]
    rfl
end
end Kp
-- KpReach
namespace Kp
open PySem PySem.Spec PyProof.Rows L2
open Kh411 (Deed Abs)
/-! ### a deed as it is told, and what it does -/
structure DOk (m : Nat) (d : Deed) : Prop where
  need : d.need < 2 ^ m
  be : d.be < 2 ^ m
  on : d.on < 2 ^ m
  off : d.off < 2 ^ m
  sub : d.be &&& d.need = d.be
  apart : d.on &&& d.off = 0
theorem sub_and (x y : Nat) : x - (x &&& y) = x ^^^ (x &&& y) := by
  have e := Bits.nat_xor_add_and x (x &&& y)
  have e2 : x &&& (x &&& y) = x &&& y := by
    refine Nat.eq_of_testBit_eq fun i => ?_
    simp only [Nat.testBit_and]
    cases x.testBit i <;> simp
  rw [e2] at e
  omega
theorem aft_after {a : Abs} {d : Deed} {t : Nat} (h : DOk a.m d) (ht : t < 2 ^ a.m) : aft d t = Kh411.after a d t := by
  unfold aft Kh411.after
  rw [sub_and, Ka.join_or (Ka.less_lt _ _ _) h.on, Ka.less_xor ht]
  refine Nat.eq_of_testBit_eq fun i => ?_
  have ap : (d.on.testBit i && d.off.testBit i) = false := by
    rw [← Nat.testBit_and, h.apart, Nat.zero_testBit]
  simp only [Nat.testBit_xor, Nat.testBit_and, Nat.testBit_or]
  cases t.testBit i <;> cases hn : d.on.testBit i <;> cases hf : d.off.testBit i <;> simp_all
theorem done_eq {a : Abs} {d : Deed} {t : Nat} (h : DOk a.m d) (ht : t < 2 ^ a.m) : Kh411.done a t d = if canDo a.rule d t = true then some (aft d t) else none := by
  unfold Kh411.done canDo hasNeed Kh411.can Kh411.let_
  rw [← aft_after h ht, Ka.meet_and ht, Ka.has_tb]
  by_cases c : t &&& d.need = d.be <;> simp [c]
/-- what the calls' state is like -/
structure Wf (a : Abs) : Prop where
  m1 : 1 ≤ a.m
  m4 : a.m ≤ 4
  r : a.rule < 2 ^ 2 ^ a.m
  len : a.deeds.length ≤ 6
  ok : ∀ d ∈ a.deeds, DOk a.m d
theorem pow4 {m : Nat} (h : m ≤ 4) : 2 ^ m ≤ 16 := Nat.le_trans (Nat.pow_le_pow_right (by decide) h) (by decide)
theorem Same.none_upd {H H' : Hp} {p : Addr} {o : HO} (s : Same H H') (h : H p = none) : Same H (upd H' p o) := fun b x e => by
  have : b ≠ p := fun z => by
    rw [z, h] at e
    cases e
  rw [upd_ne this]
  exact s b x e
theorem Same.new {H : Hp} {p : Addr} {o : HO} (h : H p = none) : Same H (upd H p o) := Same.none_upd (Same.refl H) h
/-! ### a dict of what is found -/
def fK (F : List Nat) : List (Key × V) := F.map fun t : Nat => ((Sum.inl (t : Int) : Key), V.bl true)
theorem fK_val : ∀ (F : List Nat) (u : Nat), (valV (fK F) (Sum.inl (u : Int))).isSome = decide (u ∈ F)
  | [], u => by simp [fK, valV]
  | t :: F, u => by
    have ih := fK_val F u
    show (valV (((Sum.inl (t : Int) : Key), V.bl true) :: fK F) (Sum.inl (u : Int))).isSome = _
    by_cases e : t = u
    · subst e
      rw [valV_pos rfl]
      simp
    · rw [valV_neg (by intro z; exact e (by have := Sum.inl.inj z; omega)), ih]
      by_cases q : u ∈ F
      · simp [q]
      · have : ¬ u = t := fun z => e z.symm
        simp [q, this]
theorem fK_put {F : List Nat} {u : Nat} (h : u ∉ F) : putK (fK F) (Sum.inl (u : Int)) (V.bl true) = fK (F ++ [u]) := by
  unfold putK
  have : ((fK F).any fun kv => decide (kv.1 = Sum.inl (u : Int))) = false := by
    rw [valV_any, fK_val]
    simp [h]
  rw [this, if_neg Bool.false_ne_true]
  unfold fK
  rw [List.map_append]
  rfl
theorem fK_len (F : List Nat) : (fK F).length = F.length := List.length_map _
theorem fK_keys (F : List Nat) : (fK F).map (·.1) = (F.map fun t : Nat => (t : Int)).map Sum.inl := by
  unfold fK
  rw [List.map_map, List.map_map]
  rfl
theorem ints_back {ys : List Int} {F : List Nat} (h : ys.Perm (F.map fun t : Nat => (t : Int))) (hs : ys.Pairwise (· ≤ ·)) : ∃ ns : List Nat, ys = (ns.map fun t : Nat => (t : Int)) ∧ ns.Perm F ∧ ns.Pairwise (· ≤ ·) := by
  have hn : ∀ y ∈ ys, 0 ≤ y := fun y hy => by
    obtain ⟨t, _, rfl⟩ := List.mem_map.mp (h.mem_iff.mp hy)
    exact Int.natCast_nonneg t
  refine ⟨ys.map Int.toNat, ?_, ?_, ?_⟩
  · rw [List.map_map]
    have : ys.map id = ys := List.map_id ys
    refine this.symm.trans (List.map_congr_left fun y hy => ?_)
    have := hn y hy
    show y = ((y.toNat : Nat) : Int)
    omega
  · have := h.map Int.toNat
    rw [List.map_map] at this
    have e : (F.map (Int.toNat ∘ fun t : Nat => (t : Int))) = F := by
      have : (Int.toNat ∘ fun t : Nat => (t : Int)) = id := rfl
      rw [this, List.map_id]
    rw [e] at this
    exact this
  · rw [List.pairwise_map]
    exact hs.imp fun {x y} q => by omega
/-- the measure of the while: what is not found counts twice, what waits once -/
def muR (a : Abs) (p q : Addr) (H : Hp) : Nat := match H p, H q with
  | some (.dK kvs), some (.lst xs) => 2 * (2 ^ a.m - kvs.length) + xs.length
  | _, _ => 0
theorem muR_eq {a : Abs} {p q : Addr} {H : Hp} {F W : List Nat} (hp : H p = some (.dK (fK F))) (hq : H q = some (.lst (nV W))) : muR a p q H = 2 * (2 ^ a.m - F.length) + W.length := by
  unfold muR
  rw [hp, hq]
  show 2 * (2 ^ a.m - (fK F).length) + (nV W).length = _
  rw [fK_len]
  unfold nV
  rw [List.length_map]
theorem ref_at {ds : List Addr} {i : Nat} {y : V} (h : (ds.map V.ref)[i]? = some y) : ∃ pd, ds[i]? = some pd ∧ y = V.ref pd := by
  rw [List.getElem?_map] at h
  cases e : ds[i]? with
  | none =>
    rw [e] at h
    cases h
  | some pd =>
    rw [e] at h
    exact ⟨pd, rfl, (Option.some.inj h).symm⟩
theorem nat_at {l : List Nat} {i : Nat} {y : V} (h : (nV l)[i]? = some y) : ∃ n, l[i]? = some n ∧ y = V.int (n : Int) := by
  unfold nV at h
  rw [List.getElem?_map] at h
  cases e : l[i]? with
  | none =>
    rw [e] at h
    cases h
  | some n =>
    rw [e] at h
    exact ⟨n, rfl, (Option.some.inj h).symm⟩
theorem nV_len (l : List Nat) : (nV l).length = l.length := List.length_map _
theorem nV_app (l r : List Nat) : nV (l ++ r) = nV l ++ nV r := List.map_append
/-! ### promises -/
def isD (m : Nat) (d : Deed) : Bool := !decide (2 ^ m ≤ d.need ||| d.be ||| d.on ||| d.off) && (decide (d.be &&& d.need = d.be) && decide (d.on &&& d.off = 0))
def spIsDeed (C : Addr) : Sp := fun vs H Q _ => ∃ (m : Nat) (p : Addr) (d : Deed), vs = [.int (m : Int), .ref p] ∧ m ≤ 4 ∧ DeedAt C H p d ∧ Q (.bl (isD m d)) H
def spReach (K : PySem.W.Frag) (C : Addr) : Sp := fun vs H Q _ => ∃ (a : Abs) (l : Addr) (ds : List Addr) (s : Nat), vs = [.int (a.rule : Int), .ref l, .int (s : Int)] ∧ SqL K H l (ds.map V.ref) ∧ DeedsAt C H ds a.deeds ∧
  a.m ≤ 4 ∧ (∀ d ∈ a.deeds, DOk a.m d) ∧ s < 2 ^ a.m ∧ ∀ H' p, Same H H' → H p = none → H' p = some (.lst (nV (Kh411.reach a s))) → Q (.ref p) H'
section
variable {P : Program} {w : World} {K : PySem.W.Frag} {mg : Str → Option Value} {base : Heap} {C : Addr}
theorem ok_otherF (D : Df K mg "has_other_facts" ["facts", "chosen"] s_has_other_facts) (O1 : Ok P w K mg base "how_many_states" ["facts"] 1 spHow) : Ok P w K mg base "has_other_facts" ["facts", "chosen"] 2 spOtherF := by
  obtain ⟨f_how_many_states, fd1, G_how_many_states, g_how_many_states, k_how_many_states, b_how_many_states⟩ := O1
  refine Ok.mk D sc_has_other_facts (fun vs H Q E h => ?_) (fun f cdv A outer s H vs Q E hr h => ?_)
  · obtain ⟨m, c, rfl, _⟩ := h
    rfl
  · obtain ⟨m, c, rfl, hm, hQ⟩ := h
    have hr_how_many_states : Room 1 _ := hr
    refine ⟨_, (pss_one (ps_ret (pe_cmpR op_ge (pv 1) (pe_call G_how_many_states hr_how_many_states rfl g_how_many_states k_how_many_states b_how_many_states .nil pass0 (pa_cons (pv 0) pa_nil)) (nomark _)))), ?_⟩
    refine ⟨_, rfl, _, rfl, m, rfl, by omega, _, _, rfl, rfl, ?_⟩
    refine qb ?_ hQ
    by_cases z : 2 ^ m ≤ c
    · rw [decide_eq_true z, decide_eq_true (Int.ofNat_le.mpr z)]
    · rw [decide_eq_false z, decide_eq_false (fun q => z (Int.ofNat_le.mp q))]
theorem ok_otherS (D : Df K mg "has_other_states" ["facts", "rule"] s_has_other_states) (O1 : Ok P w K mg base "all_states" ["facts"] 2 spAll) : Ok P w K mg base "has_other_states" ["facts", "rule"] 3 spOtherS := by
  obtain ⟨f_all_states, fd1, G_all_states, g_all_states, k_all_states, b_all_states⟩ := O1
  refine Ok.mk D sc_has_other_states (fun vs H Q E h => ?_) (fun f cdv A outer s H vs Q E hr h => ?_)
  · obtain ⟨m, c, rfl, _⟩ := h
    rfl
  · obtain ⟨m, c, rfl, hm, hQ⟩ := h
    have hr_all_states : Room 2 _ := hr
    refine ⟨_, (pss_one (ps_ret (pe_cmpR op_gt (pv 1) (pe_call G_all_states hr_all_states rfl g_all_states k_all_states b_all_states .nil pass0 (pa_cons (pv 0) pa_nil)) (nomark _)))), ?_⟩
    refine ⟨_, rfl, _, rfl, m, rfl, by omega, _, _, rfl, rfl, ?_⟩
    refine qb ?_ hQ
    have h1 : 1 ≤ 2 ^ 2 ^ m := Nat.one_le_two_pow
    by_cases z : 2 ^ 2 ^ m ≤ c
    · rw [decide_eq_true z, decide_eq_true (Int.ofNat_lt.mpr (by omega))]
    · rw [decide_eq_false z, decide_eq_false (fun q => z (by have := Int.ofNat_lt.mp q; omega))]
theorem ok_isDeed (D : Df K mg "is_deed" ["facts", "deed"] s_is_deed) (T : CT K C) (O1 : Ok P w K mg base "has_other_facts" ["facts", "chosen"] 2 spOtherF) : Ok P w K mg base "is_deed" ["facts", "deed"] 3 (spIsDeed C) := by
  obtain ⟨f_has_other_facts, fd1, G_has_other_facts, g_has_other_facts, k_has_other_facts, b_has_other_facts⟩ := O1
  refine Ok.mk D sc_is_deed (fun vs H Q E h => ?_) (fun f cdv A outer s H vs Q E hr h => ?_)
  · obtain ⟨m, p, d, rfl, _⟩ := h
    rfl
  · obtain ⟨m, p, d, rfl, hm, ⟨dx, hp⟩, hQ⟩ := h
    have hr_has_other_facts : Room 2 _ := hr
    refine ⟨_, (pss_cons (ps_if (pt_val (pe_call G_has_other_facts hr_has_other_facts rfl g_has_other_facts k_has_other_facts b_has_other_facts .nil pass0 (pa_cons (pv 0) (pa_cons (pe_op op_or (pe_op op_or (pe_op op_or (pe_fld (pv 1) rfl) (pe_fld (pv 1) rfl)) (pe_fld (pv 1) rfl)) (pe_fld (pv 1) rfl)) pa_nil)))) (pss_one (ps_ret pe_bl)) pss_nil)
      (pss_one (ps_ret (pe_and (pe_cmpR op_eq (pe_op op_and (pe_fld (pv 1) rfl) (pe_fld (pv 1) rfl)) (pe_fld (pv 1) rfl) (nomark _)) (pe_one (pe_cmpR op_eq (pe_op op_and (pe_fld (pv 1) rfl) (pe_fld (pv 1) rfl)) pe_int (nomark _))))))), ?_⟩
    refine ⟨_, rfl, _, rfl, p, C, dx, _, _, rfl, hp, T.cl, T.need, dF_need d, _, rfl, p, C, dx, _, _, rfl, hp, T.cl, T.be, dF_be d, _, _, rfl, rfl, _, rfl, p, C, dx, _, _, rfl, hp, T.cl, T.on, dF_on d, _, _, rfl, rfl, _, rfl, p, C, dx, _, _, rfl, hp, T.cl, T.off, dF_off d, _, _, rfl, rfl, m, (d.need ||| d.be ||| d.on ||| d.off), ?_, hm, ?_⟩
    · rw [b_or, b_or]
      show [V.int (m : Int), V.int (Builtin.bitOr ((d.need ||| d.be ||| d.on : Nat) : Int) (d.off : Int))] = _
      rw [b_or]
    refine ⟨_, rfl, ?_⟩
    unfold isD at hQ
    by_cases c : 2 ^ m ≤ d.need ||| d.be ||| d.on ||| d.off
    · rw [decide_eq_true c] at hQ ⊢
      refine iteT ?_
      exact hQ
    · rw [decide_eq_false c] at hQ ⊢
      refine iteF ?_
      refine ⟨_, rfl, p, C, dx, _, _, rfl, hp, T.cl, T.be, dF_be d, _, rfl, p, C, dx, _, _, rfl, hp, T.cl, T.need, dF_need d, _, _, rfl, rfl, _, rfl, p, C, dx, _, _, rfl, hp, T.cl, T.be, dF_be d, rfl, _, rfl, ?_⟩
      have e1 : decide (V.int (Builtin.bitAnd (d.be : Int) (d.need : Int)) = V.int (d.be : Int)) = decide (d.be &&& d.need = d.be) := by rw [dec_int, b_and, dec_nat]
      show if decide (V.int (Builtin.bitAnd (d.be : Int) (d.need : Int)) = V.int (d.be : Int)) = true then _ else _
      rw [e1]
      by_cases c1 : d.be &&& d.need = d.be
      · rw [decide_eq_true c1] at hQ ⊢
        refine iteT ?_
        refine ⟨_, rfl, p, C, dx, _, _, rfl, hp, T.cl, T.on, dF_on d, _, rfl, p, C, dx, _, _, rfl, hp, T.cl, T.off, dF_off d, _, _, rfl, rfl, rfl, ?_⟩
        refine qb ?_ hQ
        rw [dec_int, b_and]
        show decide (((d.on &&& d.off : Nat) : Int) = ((0 : Nat) : Int)) = _
        rw [dec_nat]
        rfl
      · rw [decide_eq_false c1] at hQ ⊢
        refine iteF ?_
        exact hQ
theorem ok_can (D : Df K mg "can_be_done" ["rule", "deed", "s"] s_can_be_done) (O1 : Ok P w K mg base "has_what_it_needs" ["deed", "s"] 1 (spNeeds C)) (O2 : Ok P w K mg base "is_let" ["rule", "s"] 2 spLet) (O3 : Ok P w K mg base "state_after" ["deed", "s"] 1 (spAfter C)) : Ok P w K mg base "can_be_done" ["rule", "deed", "s"] 3 (spCan C) := by
  obtain ⟨f1, fd1, G_has_what_it_needs, g_has_what_it_needs, k_has_what_it_needs, b_has_what_it_needs⟩ := O1
  obtain ⟨f2, fd2, G_is_let, g_is_let, k_is_let, b_is_let⟩ := O2
  obtain ⟨f3, fd3, G_state_after, g_state_after, k_state_after, b_state_after⟩ := O3
  refine Ok.mk D sc_can_be_done (fun vs H Q E h => ?_) (fun f cdv A outer s H vs Q E hr h => ?_)
  · obtain ⟨r, p, d, s, rfl, _⟩ := h
    rfl
  · obtain ⟨r, p, d, z, rfl, hp, hQ⟩ := h
    have hr1 : Room 1 _ := hr.mono (by decide)
    refine ⟨_, (pss_one (ps_ret (pe_and (pe_call G_has_what_it_needs hr1 rfl g_has_what_it_needs k_has_what_it_needs b_has_what_it_needs .nil pass0 (pa_cons (pv 1) (pa_cons (pv 2) pa_nil))) (pe_one (pe_call G_is_let hr rfl g_is_let k_is_let b_is_let .nil pass0 (pa_cons (pv 0) (pa_cons (pe_call G_state_after hr1 rfl g_state_after k_state_after b_state_after .nil pass0 (pa_cons (pv 1) (pa_cons (pv 2) pa_nil))) pa_nil))))))), ?_⟩
    refine ⟨_, rfl, _, rfl, p, d, z, rfl, hp, _, rfl, ?_⟩
    unfold canDo at hQ
    cases c : hasNeed d z with
    | false =>
      rw [c] at hQ
      refine iteF ?_
      exact hQ
    | true =>
      rw [c] at hQ
      refine iteT ?_
      exact ⟨_, rfl, _, rfl, _, rfl, p, d, z, rfl, hp, r, aft d z, rfl, hQ⟩
theorem ok_reach (D : Df K mg "states_reached" ["rule", "deeds", "s"] s_states_reached) (zs : mg "sorted" = none) (O1 : Ok P w K mg base "state_after" ["deed", "s"] 1 (spAfter C)) (O2 : Ok P w K mg base "can_be_done" ["rule", "deed", "s"] 3 (spCan C)) : Ok P w K mg base "states_reached" ["rule", "deeds", "s"] 4 (spReach K C) := by
  obtain ⟨f1, fd1, G_state_after, g_state_after, k_state_after, b_state_after⟩ := O1
  obtain ⟨f2, fd2, G_can_be_done, g_can_be_done, k_can_be_done, b_can_be_done⟩ := O2
  refine Ok.mk D sc_states_reached (fun vs H Q E h => ?_) (fun f cdv A outer s H vs Q E hr h => ?_)
  · obtain ⟨a, l, ds, s, rfl, _⟩ := h
    rfl
  · obtain ⟨a, l, ds, z, rfl, hl, hds, hm, hok, hz, hQ⟩ := h
    have hu := hu_of hr
    have hr_state_after : Room 1 _ := hr.mono (by decide)
    have hr_can_be_done : Room 3 _ := hr
    refine ⟨_, (pss_cons (ps_set (i := 3) sc_states_reached.nd rfl (Or.inl rfl) (pe_disp (pps_cons (pv 2) pe_bl pps_nil) (by rfl) (by rfl) (fun z => by cases z) (by decide)))
      (pss_cons (ps_set (i := 4) sc_states_reached.nd rfl (Or.inl rfl) (pe_lst (pa_cons (pv 2) pa_nil)))
      (pss_cons (ps_while PassesOwn.never (pt_truth (pv 4) (by intro _; rfl)) (pss_cons (ps_set (i := 5) sc_states_reached.nd rfl (Or.inl rfl) (pe_bm0 PySem.F.plainAttrs_list PySem.F.slot_list_pop PySem.F.type_list_pop mt_pop (pv 4)))
      (pss_one (ps_for PassesOwn.never rfl (pi_list (pv 1)) (pg_name (i := 6) sc_states_reached.nd rfl (Or.inl rfl)) (pss_cons (ps_set (i := 7) sc_states_reached.nd rfl (Or.inl rfl) (pe_call G_state_after hr_state_after rfl g_state_after k_state_after b_state_after .nil pass0 (pa_cons (pv 6) (pa_cons (pv 5) pa_nil))))
      (pss_one (ps_if (PW.pt (pw_and (pt_cmp (pc_dnotin hu (pv 7) (pv 3))) (pw_and1 (pt_val (pe_call G_can_be_done hr_can_be_done rfl g_can_be_done k_can_be_done b_can_be_done .nil pass0 (pa_cons (pv 0) (pa_cons (pv 6) (pa_cons (pv 5) pa_nil)))))))) (pss_cons (ps_dput hu (pv 3) (pv 7) pe_bl rfl)
      (pss_one (ps_expr (pe_bm PySem.F.plainAttrs_list PySem.F.slot_list_append PySem.F.type_list_append mt_append (pv 4) (pa_cons (pv 7) pa_nil))))) pss_nil)))))))
      (pss_one (ps_ret (pe_callB (call_sortedDI rfl) (by rfl) zs (by decide +kernel) (pa_cons (pv 3) pa_nil))))))), ?_⟩
    intro p hp
    refine ⟨_, rfl, upd_same, [(Sum.inl (z : Int), .bl true)], rfl, (by show 1 ≤ 15; decide), ?_⟩
    have s1 : Same H (upd (upd H p (.dK [])) p (.dK (fK [z]))) := Same.none_upd (Same.new hp) hp
    have hp1 : (upd (upd H p (.dK [])) p (.dK (fK [z]))) p = some (.dK (fK [z])) := upd_same
    have em : mergeK [] [((Sum.inl (z : Int) : Key), V.bl true)] = fK [z] := rfl
    rw [em]
    generalize upd (upd H p (.dK [])) p (.dK (fK [z])) = H1 at s1 hp1
    refine ⟨_, rfl, (by show 1 ≤ sizeLine; decide), fun q hq => ?_⟩
    have hq0 : H q = none := s1.free hq
    have s2 : Same H (upd H1 q (.lst (nV [z]))) := Same.none_upd s1 hq0
    have npq : p ≠ q := ne_of_none hp1 hq
    have hp2 : (upd H1 q (.lst (nV [z]))) p = some (.dK (fK [z])) := (upd_ne npq).trans hp1
    have hq2 : (upd H1 q (.lst (nV [z]))) q = some (.lst (nV [z])) := upd_same
    change Same H (upd H1 q (.lst [V.int (z : Int)])) at s2
    change (upd H1 q (.lst [V.int (z : Int)])) p = _ at hp2
    change (upd H1 q (.lst [V.int (z : Int)])) q = _ at hq2
    generalize upd H1 q (.lst [V.int (z : Int)]) = H2 at s2 hp2 hq2 ⊢
    refine set_name ?_
    dsimp only
    refine seq_while ?_
    refine while_by (fun σ H' => ∃ (F W : List Nat) (v5 v6 v7 : Option V), σ = [some (.int (a.rule : Int)), some (.ref l), some (.int (z : Int)), some (.ref p), some (.ref q), v5, v6, v7] ∧ Same H H' ∧ H' p = some (.dK (fK F)) ∧ H' q = some (.lst (nV W)) ∧ Ka.RInv a z F W)
      (fun σ H' => muR a p q H')
      ⟨[z], [z], none, none, none, rfl, s2, hp2, hq2, Ka.RInv.start a z⟩ ?_ (fun σ H Q Q' m h => ?_)
    · rintro σ H3 ⟨F, W, v5, v6, v7, rfl, s3, hp3, hq3, I⟩
      refine ⟨_, rfl, !(nV W).isEmpty, .inl ⟨_, SqL.of hq3, rfl⟩, ?_⟩
      rcases List.eq_nil_or_concat W with rfl | ⟨W0, h, rfl⟩
      · refine iteF ?_
        refine ⟨_, rfl, p, fK F, F.map fun t : Nat => (t : Int), rfl, Rd.of hp3, fK_keys F, ?_, fun ys r hperm hsort hr0 => ?_⟩
        · rw [List.length_map]
          have := I.len hz
          have := pow4 hm
          omega
        · obtain ⟨ns, rfl, hp4, hs4⟩ := ints_back hperm hsort
          have e := I.finish hz hp4 hs4
          subst e
          refine hQ _ r (Same.none_upd s3 (s3.free hr0)) (s3.free hr0) ?_
          rw [upd_same, List.map_map]
          rfl
      · rw [List.concat_eq_append] at hq3 I ⊢
        have e0 : (!(nV (W0 ++ [h])).isEmpty) = true := by
          rw [nV_app]
          cases nV W0 <;> rfl
        rw [if_pos e0]
        have ed : (nV (W0 ++ [h])).dropLast = nV W0 := by
          rw [nV_app]
          exact List.dropLast_concat
        refine ⟨_, rfl, .inl ⟨rfl, _, SqL.of hq3⟩, q, _, V.int (h : Int), rfl, rfl, hq3, ?_, ?_⟩
        · rw [nV_app, List.length_append]
          show (nV W0 ++ [V.int (h : Int)])[(nV W0).length + 1 - 1]? = _
          rw [Nat.add_sub_cancel, List.getElem?_append_right (Nat.le_refl _), Nat.sub_self]
          rfl
        rw [ed]
        have s4 : Same H (upd H3 q (.lst (nV W0))) := Same.none_upd s3 hq0
        have hp4 : (upd H3 q (.lst (nV W0))) p = some (.dK (fK F)) := (upd_ne npq).trans hp3
        have hq4 : (upd H3 q (.lst (nV W0))) q = some (.lst (nV W0)) := upd_same
        generalize upd H3 q (.lst (nV W0)) = H4 at s4 hp4 hq4 ⊢
        have hh : Ka.Rch a z h := I.rch h (I.sub h (List.mem_append_right _ (List.mem_singleton.mpr rfl)))
        refine ⟨_, rfl, l, rfl, ⟨_, s4.seq hl⟩, for_list (K := K) (a := l) (xs := ds.map V.ref) (fun i σ H' => ∃ (F' W' : List Nat) (v6 v7 : Option V), σ = [some (.int (a.rule : Int)), some (.ref l), some (.int (z : Int)), some (.ref p), some (.ref q), some (.int (h : Int)), v6, v7] ∧ Same H H' ∧ H' p = some (.dK (fK F')) ∧ H' q = some (.lst (nV W')) ∧ Ka.RIn a z h F W0 i F' W')
          ⟨F, W0, v6, v7, rfl, s4, hp4, hq4, Ka.RIn.start I⟩ (fun i σ H' _ ⟨_, _, _, _, _, s5, _⟩ => s5.seq hl) ?_ ?_⟩
        · rintro i y σ H' hi ⟨F', W', v6', v7', rfl, s5, hp5, hq5, J⟩
          obtain ⟨pd, hpd, rfl⟩ := ref_at hi
          obtain ⟨d, hd, hD⟩ := (hds.same s5).get hpd
          have hdm : d ∈ a.deeds := List.mem_of_getElem? hd
          have dn := done_eq (hok d hdm) (hh.lt hz)
          refine ⟨_, rfl, _, rfl, pd, d, h, rfl, hD, ?_⟩
          refine ⟨_, rfl, _, rfl, p, _, rfl, DGet.k (k := Sum.inl ((aft d h : Nat) : Int)) hp5, _, rfl, ?_⟩
          rw [fK_val]
          by_cases c : aft d h ∈ F'
          · rw [decide_eq_true c]
            refine iteF (iteF ?_)
            refine ⟨F', W', _, _, rfl, s5, hp5, hq5, J.skip hd fun u hu => ?_⟩
            rw [dn] at hu
            split at hu
            · cases hu
              exact c
            · cases hu
          · rw [decide_eq_false c]
            refine iteT ?_
            refine ⟨_, rfl, _, rfl, _, rfl, a.rule, pd, d, h, rfl, hD, _, rfl, ?_⟩
            cases c2 : canDo a.rule d h with
            | false =>
              refine iteF ?_
              refine ⟨F', W', _, _, rfl, s5, hp5, hq5, J.skip hd fun u hu => ?_⟩
              rw [dn, c2] at hu
              cases hu
            | true =>
              rw [c2, if_pos rfl] at dn
              refine iteT ?_
              have lF := J.len hz
              have l16 := pow4 hm
              refine ⟨_, rfl, _, rfl, p, _, rfl, DPut.k (k := Sum.inl ((aft d h : Nat) : Int)) hp5 (small1000 (by rw [fK_len]; omega)), ?_⟩
              rw [fK_put c]
              have nqp : q ≠ p := npq.symm
              have lW : W'.length ≤ 1000 := by
                have := Ka.RIn.le I J
                omega
              refine ⟨_, rfl, .inl ⟨rfl, _, SqL.of ((upd_ne nqp).trans hq5)⟩, _, rfl, q, _, _, rfl, rfl, (upd_ne nqp).trans hq5, small1000 (by rw [nV_len]; exact lW), ?_⟩
              refine ⟨F' ++ [aft d h], W' ++ [aft d h], _, _, rfl, Same.none_upd (Same.none_upd s5 hp) hq0, ?_, ?_, J.add hd hh dn c⟩
              · rw [upd_ne npq, upd_same]
              · rw [upd_same, nV_app]
                rfl
        · rintro σ H' ⟨F', W', v6', v7', rfl, s5, hp5, hq5, J⟩
          rw [List.length_map, hds.len] at J
          refine ⟨⟨F', W', _, _, _, rfl, s5, hp5, hq5, Ka.RIn.stop I J⟩, ?_⟩
          rw [muR_eq hp5 hq5, muR_eq hp3 hq3]
          exact J.less hz
    · obtain ⟨v, e, k, t, q⟩ := h
      exact ⟨v, e, k, t, m _ _ q⟩
end
end Kp
-- KpRows
namespace Kp
open PySem PySem.Spec PyProof.Rows L2
open Kh411 (Deed Abs)
open Ka (Dp)
/-! ### a dict of rows in the heap: each row a list of its own, new behind H0 -/
def RowAt (H0 H : Hp) (kv : Key × V) (p : Nat × List Nat) : Prop := kv.1 = Sum.inl (p.1 : Int) ∧ ∃ q, kv.2 = .ref q ∧ H0 q = none ∧ H q = some (.lst (nV p.2))
def DpAt (H0 H : Hp) : List (Key × V) → Dp → Prop
  | [], [] => True
  | kv :: kvs, p :: d => RowAt H0 H kv p ∧ DpAt H0 H kvs d
  | _, _ => False
/-- lists stand -/
def LSame (H H' : Hp) : Prop := ∀ q xs, H q = some (.lst xs) → H' q = some (.lst xs)
theorem Same.lists {H H' : Hp} (s : Same H H') : LSame H H' := fun q xs h => s q _ h
theorem LSame.upd_other {H : Hp} {p : Addr} {o : HO} (h : ∀ xs, H p ≠ some (.lst xs)) : LSame H (upd H p o) := fun q xs e => by
  have : q ≠ p := fun z => by
    rw [z] at e
    exact h xs e
  rw [upd_ne this]
  exact e
theorem LSame.trans {H H1 H2 : Hp} (a : LSame H H1) (b : LSame H1 H2) : LSame H H2 := fun q xs h => b q xs (a q xs h)
theorem DpAt.lists {H0 H H' : Hp} (s : LSame H H') : ∀ {kvs : List (Key × V)} {d : Dp}, DpAt H0 H kvs d → DpAt H0 H' kvs d
  | [], [], _ => trivial
  | _ :: _, _ :: _, h => by
    obtain ⟨⟨e, q, e2, e3, e4⟩, h2⟩ := h
    exact ⟨⟨e, q, e2, e3, s q _ e4⟩, DpAt.lists s h2⟩
  | [], _ :: _, h => h.elim
  | _ :: _, [], h => h.elim
theorem DpAt.len {H0 H : Hp} : ∀ {kvs : List (Key × V)} {d : Dp}, DpAt H0 H kvs d → kvs.length = d.length
  | [], [], _ => rfl
  | _ :: _, _ :: _, h => congrArg (· + 1) (DpAt.len h.2)
  | [], _ :: _, h => h.elim
  | _ :: _, [], h => h.elim
theorem DpAt.get {H0 H : Hp} : ∀ {kvs : List (Key × V)} {d : Dp}, DpAt H0 H kvs d → ∀ {i : Nat} {kv : Key × V}, kvs[i]? = some kv → ∃ p, d[i]? = some p ∧ RowAt H0 H kv p
  | kv :: kvs, p :: d, h, 0, q, e => by
    cases e
    exact ⟨p, rfl, h.1⟩
  | _ :: kvs, _ :: d, h, i + 1, q, e => DpAt.get h.2 (i := i) e
  | [], [], _, _, _, e => by cases e
  | [], _ :: _, h, _, _, _ => h.elim
  | _ :: _, [], h, _, _, _ => h.elim
theorem DpAt.app {H0 H : Hp} {kv : Key × V} {p : Nat × List Nat} (hp : RowAt H0 H kv p) : ∀ {kvs : List (Key × V)} {d : Dp}, DpAt H0 H kvs d → DpAt H0 H (kvs ++ [kv]) (d ++ [p])
  | [], [], _ => ⟨hp, trivial⟩
  | _ :: _, _ :: _, h => ⟨h.1, DpAt.app hp h.2⟩
  | [], _ :: _, h => h.elim
  | _ :: _, [], h => h.elim
theorem DpAt.has {H0 H : Hp} : ∀ {kvs : List (Key × V)} {d : Dp}, DpAt H0 H kvs d → ∀ c : Nat, (valV kvs (Sum.inl (c : Int))).isSome = Ka.hasK d c
  | [], [], _, _ => rfl
  | kv :: kvs, p :: d, h, c => by
    obtain ⟨⟨e, _⟩, h2⟩ := h
    have ih := DpAt.has h2 c
    unfold Ka.hasK at ih ⊢
    rw [List.any_cons]
    by_cases z : p.1 = c
    · rw [valV_pos (by rw [e, z]), z]
      simp
    · have : ¬ kv.1 = Sum.inl (c : Int) := fun q => z (by rw [e] at q; have := Sum.inl.inj q; omega)
      rw [valV_neg this, ih]
      simp [z]
  | [], _ :: _, h, _ => h.elim
  | _ :: _, [], h, _ => h.elim
/-- of a dict without a key twice: the i-th's value is found by its key -/
theorem DpAt.val {H0 H : Hp} : ∀ {kvs : List (Key × V)} {d : Dp}, DpAt H0 H kvs d → (d.map (·.1)).Nodup → ∀ {i : Nat} {kv : Key × V}, kvs[i]? = some kv → valV kvs kv.1 = some kv.2
  | kv :: kvs, p :: d, h, hn, 0, q, e => by
    cases e
    exact valV_pos rfl
  | kv :: kvs, p :: d, h, hn, i + 1, q, e => by
    have e' : kvs[i]? = some q := e
    obtain ⟨r, hr, er, _⟩ := DpAt.get h.2 e'
    rw [List.map_cons, List.nodup_cons] at hn
    have : ¬ kv.1 = q.1 := fun z => by
      rw [h.1.1, er] at z
      have z2 : p.1 = r.1 := by have := Sum.inl.inj z; omega
      exact hn.1 (by rw [z2]; exact List.mem_map.mpr ⟨r, List.mem_of_getElem? hr, rfl⟩)
    rw [valV_neg this]
    exact DpAt.val h.2 hn.2 e'
  | [], [], _, _, _, _, e => by cases e
  | [], _ :: _, h, _, _, _, _ => h.elim
  | _ :: _, [], h, _, _, _, _ => h.elim
theorem putK_new {kvs : List (Key × V)} {k : Key} {v : V} (h : (valV kvs k).isSome = false) : putK kvs k v = kvs ++ [(k, v)] := by
  unfold putK
  rw [valV_any, h, if_neg Bool.false_ne_true]
/-! ### promises -/
def spTog (K : PySem.W.Frag) : Sp := fun vs H Q _ => ∃ (s : Nat) (l : Addr) (ns : List Nat), vs = [.int (s : Int), .ref l] ∧ SqL K H l (nV ns) ∧ Q (.int ((s ^^^ Ka.chg s ns : Nat) : Int)) H
def spRows (K : PySem.W.Frag) : Sp := fun vs H Q _ => ∃ (s k : Nat) (l : Addr) (ns : List Nat), vs = [.int (s : Int), .ref l, .int (k : Int)] ∧ SqL K H l (nV ns) ∧ ns.length ≤ 16 ∧ k ≤ 4 ∧ Ka.Rising ns ∧
  ∀ H' p kvs, Same H H' → H p = none → H' p = some (.dK kvs) → DpAt H H' kvs (Ka.dp s ns k) → Q (.ref p) H'
def spBad (K : PySem.W.Frag) (C : Addr) : Sp := fun vs H Q _ => ∃ (a : Abs) (l : Addr) (ds : List Addr) (s k : Nat), vs = [.int (a.rule : Int), .ref l, .int (s : Int), .int (k : Int)] ∧ SqL K H l (ds.map V.ref) ∧ DeedsAt C H ds a.deeds ∧
  a.m ≤ 4 ∧ (∀ d ∈ a.deeds, DOk a.m d) ∧ s < 2 ^ a.m ∧ k ≤ 4 ∧ ∀ H' p, Same H H' → H p = none → H' p = some (.lst (nV (Ka.firstBad a s k))) → Q (.ref p) H'
section
variable {P : Program} {w : World} {K : PySem.W.Frag} {mg : Str → Option Value} {base : Heap} {C : Addr}
theorem ok_tog (D : Df K mg "put_together" ["s", "states"] s_put_together) : Ok P w K mg base "put_together" ["s", "states"] 1 (spTog K) := by
  refine Ok.mk D sc_put_together (fun vs H Q E h => ?_) (fun f cdv A outer s H vs Q E hr h => ?_)
  · obtain ⟨s, l, ns, rfl, _⟩ := h
    rfl
  · obtain ⟨z, l, ns, rfl, hl, hQ⟩ := h
    refine ⟨_, (pss_cons (ps_set (i := 2) sc_put_together.nd rfl (Or.inl rfl) pe_int)
      (pss_cons (ps_for PassesOwn.never rfl (pi_list (pv 1)) (pg_name (i := 3) sc_put_together.nd rfl (Or.inl rfl)) (pss_one (ps_set (i := 2) sc_put_together.nd rfl (Or.inl rfl) (pe_op op_or (pv 2) (pe_op op_xor (pv 0) (pv 3))))))
      (pss_one (ps_ret (pe_op op_xor (pv 0) (pv 2)))))), ?_⟩
    refine ⟨_, rfl, l, rfl, ⟨_, hl⟩, for_list (K := K) (a := l) (xs := nV ns) (fun i σ H' => ∃ v, σ = [some (.int (z : Int)), some (.ref l), some (.int ((Ka.chg z (ns.take i) : Nat) : Int)), v] ∧ H' = H) ⟨none, rfl, rfl⟩ (fun i σ H' _ ⟨_, _, e⟩ => e ▸ hl) ?_ ?_⟩
    · rintro i y σ H' hi ⟨v, rfl, rfl⟩
      obtain ⟨n, hn, rfl⟩ := nat_at hi
      refine ⟨_, rfl, _, rfl, _, rfl, _, _, rfl, rfl, _, _, rfl, rfl, ?_⟩
      refine ⟨some (V.int (n : Int)), ?_, rfl⟩
      rw [Ka.chg_take hn, b_xor]
      show [some (V.int (z : Int)), some (V.ref l), some (V.int (Builtin.bitOr ((Ka.chg z (ns.take i) : Nat) : Int) ((z ^^^ n : Nat) : Int))), some (V.int (n : Int))] = _
      rw [b_or]
    · rintro σ H' ⟨v, rfl, rfl⟩
      refine ⟨_, rfl, _, rfl, _, _, rfl, rfl, ?_⟩
      refine qi ?_ hQ
      rw [b_xor, nV_len, List.take_length]
theorem ok_rows (D : Df K mg "first_rows" ["s", "reached", "k"] s_first_rows) (zr : mg "range" = none) : Ok P w K mg base "first_rows" ["s", "reached", "k"] 1 (spRows K) := by
  refine Ok.mk D sc_first_rows (fun vs H Q E h => ?_) (fun f cdv A outer s H vs Q E hr h => ?_)
  · obtain ⟨s, k, l, ns, rfl, _⟩ := h
    rfl
  · obtain ⟨z, k, l, ns, rfl, hl, hns, hk, hris, hQ⟩ := h
    have hu := hu_of hr
    refine ⟨_, (pss_cons (ps_set (i := 3) sc_first_rows.nd rfl (Or.inl rfl) (pe_disp (pps_cons pe_int (pe_lst pa_nil) pps_nil) (by rfl) (by rfl) (fun z => by cases z) (by decide)))
      (pss_cons (ps_for PassesOwn.never rfl (pi_range1 rfl zr (pa_cons (pv 2) pa_nil)) (pg_name (i := 4) sc_first_rows.nd rfl (Or.inl rfl)) (pss_cons (ps_set (i := 5) sc_first_rows.nd rfl (Or.inl rfl) pe_dnewK)
      (pss_cons (ps_lock (ps_for PassesOwn.never rfl (pi_keys (pv 3)) (pg_name (i := 6) sc_first_rows.nd rfl (Or.inl rfl)) (pss_one (ps_for PassesOwn.never rfl (pi_list (pv 1)) (pg_name (i := 7) sc_first_rows.nd rfl (Or.inl rfl)) (pss_cons (ps_set (i := 8) sc_first_rows.nd rfl (Or.inl rfl) (pe_op op_or (pv 6) (pe_op op_xor (pv 0) (pv 7))))
      (pss_one (ps_if (pt_cmp (pc_dnotin hu (pv 8) (pv 5))) (pss_one (ps_dput hu (pv 5) (pv 8) (pe_op op_cat (pe_dget hu (pv 3) (pv 6) (fun _ _ => rfl)) (pe_lst (pa_cons (pv 7) pa_nil))) rfl)) pss_nil)))))))
      (pss_one (ps_set (i := 3) sc_first_rows.nd rfl (Or.inl rfl) (pv 5))))))
      (pss_one (ps_ret (pv 3))))), ?_⟩
    -- rows = {0: []}
    intro p hp
    refine ⟨Nat.zero_le _, fun q hq => ?_⟩
    have npq : p ≠ q := ne_of_none (H := upd H p (.dK [])) upd_same hq
    have hq0 : H q = none := (upd_ne npq.symm).symm.trans hq
    refine ⟨(upd_ne npq).trans upd_same, [(Sum.inl ((0 : Nat) : Int), .ref q)], rfl, (by show 1 ≤ 15; decide), ?_⟩
    have s1 : Same H (upd (upd (upd H p (.dK [])) q (.lst [])) p (.dK (mergeK [] [((Sum.inl ((0 : Nat) : Int) : Key), V.ref q)]))) := Same.none_upd (Same.none_upd (Same.new hp) hq0) hp
    have hp1 : (upd (upd (upd H p (.dK [])) q (.lst [])) p (.dK (mergeK [] [((Sum.inl ((0 : Nat) : Int) : Key), V.ref q)]))) p = some (.dK [((Sum.inl ((0 : Nat) : Int) : Key), V.ref q)]) := upd_same
    have hq1 : (upd (upd (upd H p (.dK [])) q (.lst [])) p (.dK (mergeK [] [((Sum.inl ((0 : Nat) : Int) : Key), V.ref q)]))) q = some (.lst []) := (upd_ne npq.symm).trans upd_same
    generalize upd (upd (upd H p (.dK [])) q (.lst [])) p (.dK (mergeK [] [((Sum.inl ((0 : Nat) : Int) : Key), V.ref q)])) = H1 at s1 hp1 hq1 ⊢
    have d1 : DpAt H H1 [((Sum.inl ((0 : Nat) : Int) : Key), V.ref q)] (Ka.dp z ns 0) := ⟨⟨rfl, q, rfl, hq0, hq1⟩, trivial⟩
    -- for step in range(k)
    refine ⟨_, rfl, (k : Int), rfl, by omega, by omega, for_range (lo := 0) (n := k) (fun j σ H' => ∃ (R : Addr) (kvs : List (Key × V)) (v4 v5 v6 v7 v8 : Option V), σ = [some (.int (z : Int)), some (.ref l), some (.int (k : Int)), some (.ref R), v4, v5, v6, v7, v8] ∧ Same H H' ∧ H R = none ∧ H' R = some (.dK kvs) ∧ DpAt H H' kvs (Ka.dp z ns j))
      ⟨p, _, none, none, none, none, none, rfl, s1, hp, hp1, d1⟩ ?_ ?_⟩
    · rintro j σ H2 hj ⟨R, kvs, v4, v5, v6, v7, v8, rfl, s2, hR0, hR, dd⟩
      have ok := Ka.dp_ok (s := z) hris j
      have lD := Ka.dp_len4 z hns (show j ≤ 4 by omega)
      have tups := ok.tup
      have nod := ok.nodup
      have enext : Ka.dp z ns (j + 1) = Ka.nextDp z ns (Ka.dp z ns j) := rfl
      rw [enext]
      generalize Ka.dp z ns j = DD at dd lD tups nod
      -- longer = {}
      intro L hL
      have hL0 : H L = none := s2.free hL
      have nRL : R ≠ L := ne_of_none hR hL
      have s3 : Same H (upd H2 L (.dK [])) := Same.none_upd s2 hL0
      have hR3 : (upd H2 L (.dK [])) R = some (.dK kvs) := (upd_ne nRL).trans hR
      have hL3 : (upd H2 L (.dK [])) L = some (.dK []) := upd_same
      have dd3 : DpAt H (upd H2 L (.dK [])) kvs DD := DpAt.lists (LSame.upd_other (fun xs e => by rw [hL] at e; cases e)) dd
      generalize upd H2 L (.dK []) = H3 at s3 hR3 hL3 dd3 ⊢
      -- for changed in rows
      refine ⟨R, _, hR3, trivial, fun od => ?_⟩
      have s4 : Same H (upd H3 R (.frz od (.dK kvs))) := Same.none_upd s3 hR0
      have hR4 : (upd H3 R (.frz od (.dK kvs))) R = some (.frz od (.dK kvs)) := upd_same
      have hL4 : (upd H3 R (.frz od (.dK kvs))) L = some (.dK []) := (upd_ne nRL.symm).trans hL3
      have dd4 : DpAt H (upd H3 R (.frz od (.dK kvs))) kvs DD := DpAt.lists (LSame.upd_other (fun xs e => by rw [hR3] at e; cases e)) dd3
      generalize upd H3 R (.frz od (.dK kvs)) = H4 at s4 hR4 hL4 dd4 ⊢
      refine ⟨_, rfl, R, od, rfl, .inl ⟨kvs, hR4, for_it walk_keys (fun i σ H' => ∃ (lvs : List (Key × V)) (v6 v7 v8 : Option V), σ = [some (.int (z : Int)), some (.ref l), some (.int (k : Int)), some (.ref R), some (.int (0 + (j : Int))), some (.ref L), v6, v7, v8] ∧ Same H H' ∧ H' R = some (.frz od (.dK kvs)) ∧ H' L = some (.dK lvs) ∧ DpAt H H' kvs DD ∧ DpAt H H' lvs (Ka.accAt z ns DD i))
        ⟨[], v6, v7, v8, rfl, s4, hR4, hL4, dd4, trivial⟩ (fun i σ H' _ ⟨_, _, _, _, _, _, h, _⟩ => h) ?_ ?_⟩⟩
      · rintro i x σ H5 H6 hi ⟨lvs, v6, v7, v8, rfl, s5, hR5, hL5, dk5, dl5⟩ ⟨rfl, kk, vv, hkv, rfl⟩
        obtain ⟨pr, hpr, ek, qr, eq, hq0, hqr⟩ := dk5.get hkv
        have ek' : kk = Sum.inl (pr.1 : Int) := ek
        subst ek'
        have ev : vv = V.ref qr := eq
        subst ev
        -- for y in reached
        refine ⟨_, rfl, l, rfl, ⟨_, s5.seq hl⟩, for_list (K := K) (a := l) (xs := nV ns) (fun i2 σ H' => ∃ (lvs : List (Key × V)) (v7 v8 : Option V), σ = [some (.int (z : Int)), some (.ref l), some (.int (k : Int)), some (.ref R), some (.int (0 + (j : Int))), some (.ref L), some (.int (pr.1 : Int)), v7, v8] ∧ Same H H' ∧ H' R = some (.frz od (.dK kvs)) ∧ H' L = some (.dK lvs) ∧ DpAt H H' kvs DD ∧ DpAt H H' lvs (Ka.accIn z ns pr i2 (Ka.accAt z ns DD i)))
          ⟨lvs, v7, v8, rfl, s5, hR5, hL5, dk5, dl5⟩ (fun i2 σ H' _ ⟨_, _, _, _, s7, _⟩ => s7.seq hl) ?_ ?_⟩
        · rintro i2 y σ H7 hi2 ⟨lvs, v7, v8, rfl, s7, hR7, hL7, dk7, dl7⟩
          obtain ⟨n, hn, rfl⟩ := nat_at hi2
          have lacc : (Ka.accIn z ns pr i2 (Ka.accAt z ns DD i)).length ≤ 65536 * 16 + 16 := by
            have h1 := Ka.accIn_len z ns pr i2 (Ka.accAt z ns DD i)
            have h2 := Ka.accAt_len z ns DD i
            have h3 : DD.length * ns.length ≤ 65536 * 16 := Nat.mul_le_mul lD hns
            omega
          have emore := Ka.accIn_more (s := z) (p := pr) (acc := Ka.accAt z ns DD i) hn
          rw [emore]
          generalize Ka.accIn z ns pr i2 (Ka.accAt z ns DD i) = acc at dl7 lacc
          refine ⟨_, rfl, _, rfl, _, rfl, _, _, rfl, rfl, _, _, rfl, rfl, ?_⟩
          rw [b_xor]
          have ew : Builtin.bitOr (pr.1 : Int) ((z ^^^ n : Nat) : Int) = ((pr.1 ||| (z ^^^ n) : Nat) : Int) := b_or _ _
          dsimp only
          rw [ew]
          have llv := dl7.len
          refine ⟨_, rfl, _, rfl, L, _, rfl, DGet.k (k := Sum.inl ((pr.1 ||| (z ^^^ n) : Nat) : Int)) hL7, _, rfl, ?_⟩
          rw [dl7.has]
          unfold Ka.putNew
          cases c : Ka.hasK acc (pr.1 ||| (z ^^^ n)) with
          | true =>
            refine iteF ?_
            rw [if_pos rfl]
            exact ⟨lvs, _, _, rfl, s7, hR7, hL7, dk7, dl7⟩
          | false =>
            refine iteT ?_
            rw [if_neg Bool.false_ne_true]
            obtain ⟨pr', hpr', _, qr', eq', hq0', hqr'⟩ := dk7.get hkv
            have epp : pr' = pr := Option.some.inj (hpr'.symm.trans hpr)
            subst epp
            have eqq : qr = qr' := V.ref.inj eq'
            subst eqq
            have tl : pr'.2.length ≤ 4 := by
              have := (tups pr' (List.mem_of_getElem? hpr)).1.len
              omega
            refine ⟨_, rfl, _, rfl, R, .ref qr, rfl, .inl ⟨kvs, Sum.inl (pr'.1 : Int), .inr ⟨od, hR7⟩, rfl, (dk7.val nod hkv).symm⟩, ?_⟩
            refine ⟨_, rfl, (by show 1 ≤ sizeLine; decide), fun b hb => ?_⟩
            have nqb : qr ≠ b := ne_of_none hqr' hb
            have nLb : L ≠ b := ne_of_none hL7 hb
            have nRb : R ≠ b := ne_of_none hR7 hb
            refine ⟨qr, b, nV pr'.2, _, rfl, rfl, (upd_ne nqb).trans hqr', upd_same, ?_, fun e he => ?_⟩
            · rw [nV_len]
              show pr'.2.length + 1 ≤ sizeLine
              exact Nat.le_of_lt (small1000 (by omega))
            have nbe : b ≠ e := ne_of_none (H := upd H7 b (.lst [V.int (n : Int)])) upd_same he
            have he7 : H7 e = none := (upd_ne nbe.symm).symm.trans he
            have nLe : L ≠ e := ne_of_none hL7 he7
            have nRe : R ≠ e := ne_of_none hR7 he7
            have s9 : Same H (upd (upd H7 b (.lst [V.int (n : Int)])) e (.lst (nV pr'.2 ++ [V.int (n : Int)]))) := Same.none_upd (Same.none_upd s7 (s7.free hb)) (s7.free he7)
            have hL9 : (upd (upd H7 b (.lst [V.int (n : Int)])) e (.lst (nV pr'.2 ++ [V.int (n : Int)]))) L = some (.dK lvs) := (upd_ne nLe).trans ((upd_ne nLb).trans hL7)
            have hR9 : (upd (upd H7 b (.lst [V.int (n : Int)])) e (.lst (nV pr'.2 ++ [V.int (n : Int)]))) R = some (.frz od (.dK kvs)) := (upd_ne nRe).trans ((upd_ne nRb).trans hR7)
            have ls9 : LSame H7 (upd (upd H7 b (.lst [V.int (n : Int)])) e (.lst (nV pr'.2 ++ [V.int (n : Int)]))) := (LSame.upd_other (fun xs q => by rw [hb] at q; cases q)).trans (LSame.upd_other (fun xs q => by rw [he] at q; cases q))
            have he9 : (upd (upd H7 b (.lst [V.int (n : Int)])) e (.lst (nV pr'.2 ++ [V.int (n : Int)]))) e = some (.lst (nV (pr'.2 ++ [n]))) := by
              rw [upd_same, nV_app]
              rfl
            generalize upd (upd H7 b (.lst [V.int (n : Int)])) e (.lst (nV pr'.2 ++ [V.int (n : Int)])) = H9 at s9 hL9 hR9 ls9 he9 ⊢
            refine ⟨_, rfl, _, rfl, L, _, rfl, DPut.k (k := Sum.inl ((pr'.1 ||| (z ^^^ n) : Nat) : Int)) hL9 (Nat.lt_of_le_of_lt (Nat.le_trans (Nat.le_of_eq llv) lacc) (by decide)), ?_⟩
            have hnone : (valV lvs (Sum.inl ((pr'.1 ||| (z ^^^ n) : Nat) : Int))).isSome = false := (dl7.has _).trans c
            rw [putK_new hnone]
            have lsL : LSame H9 (upd H9 L (.dK (lvs ++ [((Sum.inl ((pr'.1 ||| (z ^^^ n) : Nat) : Int) : Key), V.ref e)]))) := LSame.upd_other (fun xs q => by rw [hL9] at q; cases q)
            refine ⟨_, _, _, rfl, Same.none_upd s9 hL0, (upd_ne nRL).trans hR9, upd_same, DpAt.lists (ls9.trans lsL) dk7, ?_⟩
            exact DpAt.app ⟨rfl, e, rfl, s7.free he7, lsL _ _ he9⟩ (DpAt.lists (ls9.trans lsL) dl7)
        · rintro σ H7 ⟨lvs, v7, v8, rfl, s7, hR7, hL7, dk7, dl7⟩
          rw [nV_len] at dl7
          refine ⟨lvs, _, _, _, rfl, s7, hR7, hL7, dk7, ?_⟩
          rw [Ka.accAt_more hpr]
          exact dl7
      · rintro σ H5 ⟨lvs, v6, v7, v8, rfl, s5, hR5, hL5, dk5, dl5⟩
        refine ⟨hR5, _, rfl, L, lvs, _, _, _, _, _, rfl, Same.none_upd s5 hR0, hL0, (upd_ne nRL.symm).trans hL5, ?_⟩
        rw [dk5.len, Ka.accAt_all] at dl5
        exact DpAt.lists (LSame.upd_other (fun xs q => by rw [hR5] at q; cases q)) dl5
    · rintro σ H' ⟨R, kvs, v4, v5, v6, v7, v8, rfl, s2, hR0, hR, dd⟩
      exact ⟨_, rfl, hQ _ R kvs s2 hR0 hR dd⟩
end
end Kp
-- KpBad
namespace Kp
open PySem PySem.Spec PyProof.Rows L2
open Kh411 (Deed Abs)
open Ka (Dp)
theorem find_none_take {α : Type} {p : α → Bool} {l : List α} {i : Nat} {x : α} (h : l[i]? = some x) (hn : (l.take i).find? p = none) (hx : p x = false) : (l.take (i + 1)).find? p = none := by
  rw [Ka.take_more h, List.find?_append, hn, Option.none_or]
  simp [hx]
theorem find_some_take {α : Type} {p : α → Bool} {l : List α} {i : Nat} {x : α} (h : l[i]? = some x) (hn : (l.take i).find? p = none) (hx : p x = true) : l.find? p = some x := by
  have e : l = l.take (i + 1) ++ l.drop (i + 1) := (List.take_append_drop _ _).symm
  rw [e, Ka.take_more h, List.find?_append, List.find?_append, hn, Option.none_or]
  simp [hx]
section
variable {P : Program} {w : World} {K : PySem.W.Frag} {mg : Str → Option Value} {base : Heap} {C : Addr}
theorem ok_bad (D : Df K mg "first_breaking_row" ["rule", "deeds", "s", "k"] s_first_breaking_row) (O1 : Ok P w K mg base "first_rows" ["s", "reached", "k"] 1 (spRows K)) (O2 : Ok P w K mg base "states_reached" ["rule", "deeds", "s"] 4 (spReach K C)) (O3 : Ok P w K mg base "is_let" ["rule", "s"] 2 spLet) : Ok P w K mg base "first_breaking_row" ["rule", "deeds", "s", "k"] 5 (spBad K C) := by
  obtain ⟨f1, fd1, G_first_rows, g_first_rows, k_first_rows, b_first_rows⟩ := O1
  obtain ⟨f2, fd2, G_states_reached, g_states_reached, k_states_reached, b_states_reached⟩ := O2
  obtain ⟨f3, fd3, G_is_let, g_is_let, k_is_let, b_is_let⟩ := O3
  refine Ok.mk D sc_first_breaking_row (fun vs H Q E h => ?_) (fun f cdv A outer s H vs Q E hr h => ?_)
  · obtain ⟨a, l, ds, s, k, rfl, _⟩ := h
    rfl
  · obtain ⟨a, l, ds, z, k, rfl, hl, hds, hm, hok, hz, hk, hQ⟩ := h
    have hu := hu_of hr
    have hr_first_rows : Room 1 _ := hr.mono (by decide)
    have hr_is_let : Room 2 _ := hr.mono (by decide)
    have hr_states_reached : Room 4 _ := hr
    refine ⟨_, (pss_cons (ps_set (i := 4) sc_first_breaking_row.nd rfl (Or.inl rfl) (pe_call G_first_rows hr_first_rows rfl g_first_rows k_first_rows b_first_rows .nil pass0 (pa_cons (pv 2) (pa_cons (pe_call G_states_reached hr_states_reached rfl g_states_reached k_states_reached b_states_reached .nil pass0 (pa_cons (pv 0) (pa_cons (pv 1) (pa_cons (pv 2) pa_nil)))) (pa_cons (pv 3) pa_nil)))))
      (pss_cons (ps_lock (ps_for PassesOwn.never rfl (pi_keys (pv 4)) (pg_name (i := 5) sc_first_breaking_row.nd rfl (Or.inl rfl)) (pss_one (ps_if (pt_not (pt_val (pe_call G_is_let hr_is_let rfl g_is_let k_is_let b_is_let .nil pass0 (pa_cons (pv 0) (pa_cons (pe_op op_xor (pv 2) (pv 5)) pa_nil))))) (pss_one (ps_ret (pe_dget hu (pv 4) (pv 5) (fun _ _ => rfl)))) pss_nil))))
      (pss_one (ps_ret (pe_lst pa_nil))))), ?_⟩
    refine ⟨_, rfl, _, rfl, _, rfl, _, rfl, a, l, ds, z, rfl, hl, hds, hm, hok, hz, fun H1 p1 s1 hp0 hp1 => ?_⟩
    have hris := Ka.reach_rising a z
    have hlen : (Kh411.reach a z).length ≤ 16 := Nat.le_trans (Ka.rising_len hris fun x hx => Ka.reach_lt hz hx) (pow4 hm)
    refine ⟨_, rfl, z, k, p1, Kh411.reach a z, rfl, SqL.of hp1, hlen, hk, hris, fun H2 R kvs s2 hR1 hR dd => ?_⟩
    have ok := Ka.dp_ok (s := z) hris k
    have nod := ok.nodup
    have s12 : Same H H2 := s1.trans s2
    have hR0 : H R = none := s1.free hR1
    have eQ : Ka.firstBad a z k = match Ka.dpBad a z (Ka.dp z (Kh411.reach a z) k) with
      | none => []
      | some p => p.2 := rfl
    rw [eQ] at hQ
    generalize Ka.dp z (Kh411.reach a z) k = DD at dd nod hQ
    -- for changed in rows
    refine ⟨R, _, hR, trivial, fun od => ?_⟩
    have s4 : Same H (upd H2 R (.frz od (.dK kvs))) := Same.none_upd s12 hR0
    have hR4 : (upd H2 R (.frz od (.dK kvs))) R = some (.frz od (.dK kvs)) := upd_same
    have dd4 : DpAt H1 (upd H2 R (.frz od (.dK kvs))) kvs DD := DpAt.lists (LSame.upd_other (fun xs e => by rw [hR] at e; cases e)) dd
    generalize upd H2 R (.frz od (.dK kvs)) = H4 at s4 hR4 dd4 ⊢
    refine ⟨_, rfl, R, od, rfl, .inl ⟨kvs, hR4, for_it walk_keys (fun i σ H' => ∃ (v5 : Option V), σ = [some (.int (a.rule : Int)), some (.ref l), some (.int (z : Int)), some (.int (k : Int)), some (.ref R), v5] ∧ H' = H4 ∧ ((DD.take i).find? fun p => !Kh411.let_ a (z ^^^ p.1)) = none)
      ⟨none, rfl, rfl, rfl⟩ (fun i σ H' _ ⟨_, _, e, _⟩ => by rw [e]; exact hR4) ?_ ?_⟩⟩
    · rintro i x σ H5 H6 hi ⟨v5, rfl, rfl, hno⟩ ⟨rfl, kk, vv, hkv, rfl⟩
      obtain ⟨pr, hpr, ek, qr, eq, hq0, hqr⟩ := dd4.get hkv
      have ek' : kk = Sum.inl (pr.1 : Int) := ek
      subst ek'
      have ev : vv = V.ref qr := eq
      subst ev
      refine ⟨_, rfl, _, rfl, _, rfl, _, _, rfl, rfl, a.rule, z ^^^ pr.1, ?_, _, rfl, ?_⟩
      · dsimp only
        show [V.int (a.rule : Int), V.int (Builtin.bitXor (z : Int) (pr.1 : Int))] = _
        rw [b_xor]
      have el : Kh411.let_ a (z ^^^ pr.1) = a.rule.testBit (z ^^^ pr.1) := Ka.has_tb _ _
      rw [← el]
      cases c : Kh411.let_ a (z ^^^ pr.1) with
      | true =>
        refine iteF ?_
        exact ⟨_, rfl, rfl, find_none_take hpr hno (by rw [c]; rfl)⟩
      | false =>
        refine iteT ?_
        refine ⟨_, rfl, _, rfl, R, .ref qr, rfl, .inl ⟨kvs, Sum.inl (pr.1 : Int), .inr ⟨od, hR4⟩, rfl, (dd4.val nod hkv).symm⟩, hR4, ?_⟩
        have ef : Ka.dpBad a z DD = some pr := find_some_take hpr hno (by rw [c]; rfl)
        rw [ef] at hQ
        have nq : qr ≠ R := ne_of hqr hR4 (by intro z; cases z)
        exact hQ _ qr (Same.none_upd s4 hR0) (s1.free hq0) ((upd_ne nq).trans hqr)
    · rintro σ H5 ⟨v5, rfl, rfl, hno⟩
      rw [dd4.len, List.take_length] at hno
      refine ⟨hR4, ?_⟩
      refine ⟨Nat.zero_le _, fun q hq => ?_⟩
      have ef : Ka.dpBad a z DD = none := hno
      rw [ef] at hQ
      have s6 : Same H (upd H5 R (.dK kvs)) := Same.none_upd s4 hR0
      exact hQ _ q (Same.none_upd s6 (s6.free hq)) (s6.free hq) upd_same
end
end Kp
-- KpHeld
namespace Kp
open PySem PySem.Spec PyProof.Rows L2
open Kh411 (Deed Abs Call Ans)
/-! ### the object of the calls in the heap -/
def hF (m r : Nat) (L : Addr) : List (Str × V) := [("facts", .int (m : Int)), ("rule", .int (r : Int)), ("deeds", .ref L)]
theorem hF_facts (m r : Nat) (L : Addr) : (hF m r L).lookup ("facts" : Str) = some (.int (m : Int)) := lk_here
theorem hF_rule (m r : Nat) (L : Addr) : (hF m r L).lookup ("rule" : Str) = some (.int (r : Int)) := (lk_past (by decide +kernel)).trans lk_here
theorem hF_deeds (m r : Nat) (L : Addr) : (hF m r L).lookup ("deeds" : Str) = some (.ref L) := (lk_past (by decide +kernel)).trans ((lk_past (by decide +kernel)).trans lk_here)
theorem hF_pfacts (m r m' : Nat) (L : Addr) : putF "facts" (.int (m' : Int)) (hF m r L) = hF m' r L := put_here
theorem hF_prule (m r r' : Nat) (L : Addr) : putF "rule" (.int (r' : Int)) (hF m r L) = hF m r' L := (put_past (by decide +kernel)).trans (congrArg _ put_here)
theorem hF_pdeeds (m r : Nat) (L L' : Addr) : putF "deeds" (.ref L') (hF m r L) = hF m r L' := (put_past (by decide +kernel)).trans (congrArg _ ((put_past (by decide +kernel)).trans (congrArg _ put_here)))
theorem hF_new (L : Addr) : putF "deeds" (.ref L) (putF "rule" (.int ((0 : Nat) : Int)) (putF "facts" (.int ((0 : Nat) : Int)) [])) = hF 0 0 L := by
  have e2 : putF "rule" (.int ((0 : Nat) : Int)) (putF "facts" (.int ((0 : Nat) : Int)) []) = [(("facts" : Str), V.int ((0 : Nat) : Int)), (("rule" : Str), V.int ((0 : Nat) : Int))] := put_past (by decide +kernel)
  rw [e2]
  exact (put_past (by decide +kernel)).trans (congrArg _ (put_past (by decide +kernel)))
structure HT (K : PySem.W.Frag) (C : Addr) : Prop where
  cl : Cls K C
  facts : NoAttr K C "facts"
  rule : NoAttr K C "rule"
  deeds : NoAttr K C "deeds"
/-- the object at h, its deeds' list at L, stands for a -/
structure HeldAt (CC CD : Addr) (H : Hp) (h L : Addr) (a : Abs) : Prop where
  obj : ∃ dx, H h = some (.ins CC dx (hF a.m a.rule L))
  lst : ∃ ds, H L = some (.lst (ds.map V.ref)) ∧ DeedsAt CD H ds a.deeds
/-- all that stood, but for the object and its list -/
def Kept (H : Hp) (h L : Addr) (H' : Hp) : Prop := ∀ b o, H b = some o → b ≠ h → b ≠ L → H' b = some o
theorem Same.kept {H H' : Hp} (s : Same H H') (h L : Addr) : Kept H h L H' := fun b o e _ _ => s b o e
theorem HeldAt.same {CC CD : Addr} {H H' : Hp} {h L : Addr} {a : Abs} (s : Same H H') (x : HeldAt CC CD H h L a) : HeldAt CC CD H' h L a := by
  obtain ⟨⟨dx, e⟩, ds, e2, e3⟩ := x
  exact ⟨⟨dx, s _ _ e⟩, ds, s _ _ e2, e3.same s⟩
/-- the constants of the module -/
structure Cn (mg : Str → Option Value) : Prop where
  NOT_BEGUN : ∃ t, mg "NOT_BEGUN" = some (.int (-61) t)
  NO_SUCH_DEED : ∃ t, mg "NO_SUCH_DEED" = some (.int (-2) t)
  NOT_AS_TOLD : ∃ t, mg "NOT_AS_TOLD" = some (.int (-22) t)
  NO_MORE_DEEDS : ∃ t, mg "NO_MORE_DEEDS" = some (.int (-28) t)
  NEED_NOT_SO : ∃ t, mg "NEED_NOT_SO" = some (.int (-6) t)
  NOT_LET : ∃ t, mg "NOT_LET" = some (.int (-33) t)
  BEGINS_NOT_LET : ∃ t, mg "BEGINS_NOT_LET" = some (.int (-6) t)
  NO_CLASH : ∃ t, mg "NO_CLASH" = some (.int (-33) t)
  IS_CLOSED : ∃ t, mg "IS_CLOSED" = some (.int (-33) t)
  IS_KEPT : ∃ t, mg "IS_KEPT" = some (.int (-33) t)
  MOST_FACTS : ∃ t, mg "MOST_FACTS" = some (.int 4 t)
  MOST_DEEDS : ∃ t, mg "MOST_DEEDS" = some (.int 6 t)
  MOST_COPIES : ∃ t, mg "MOST_COPIES" = some (.int 4 t)
  BEGIN : ∃ t, mg "BEGIN" = some (.int 0 t)
  TOGETHER : ∃ t, mg "TOGETHER" = some (.int 8 t)
  len : mg "len" = none
  range : mg "range" = none
  sorted : mg "sorted" = none
  min : mg "min" = none
  list : mg "list" = none
/-- an answer as values -/
def ansV (x : Ans) : List V := (x.ret :: x.out).map V.int
theorem ansV_say (x : Int) : ansV (Kh411.say x) = [V.int x] := rfl
theorem ansV_nats (h : Nat) (l : List Nat) : ansV (Kh411.nats h l) = V.int (h : Int) :: nV l := by
  unfold ansV Kh411.nats nV
  rw [List.map_cons, List.map_map]
  rfl
/-! ### promises -/
def spBegun (CC CD : Addr) : Sp := fun vs H Q _ => ∃ (h L : Addr) (a : Abs), vs = [.ref h] ∧ HeldAt CC CD H h L a ∧ Q (.bl (decide (0 < a.m))) H
def spHas (CC CD : Addr) : Sp := fun vs H Q _ => ∃ (h L : Addr) (a : Abs) (i : Nat), vs = [.ref h, .int (i : Int)] ∧ HeldAt CC CD H h L a ∧ Q (.bl (decide (i < a.deeds.length))) H
def spIsS (CC CD : Addr) : Sp := fun vs H Q _ => ∃ (h L : Addr) (a : Abs) (s : Nat), vs = [.ref h, .int (s : Int)] ∧ HeldAt CC CD H h L a ∧ a.m ≤ 4 ∧ Q (.bl (decide (s < 2 ^ a.m))) H
def spK : Sp := fun vs H Q _ => ∃ (k : Nat), vs = [.int (k : Int)] ∧ Q (.bl (decide (1 ≤ k ∧ k ≤ 4))) H
def spYes : Sp := fun vs H Q _ => ∃ (b : Bool), vs = [.bl b] ∧ ∀ H' p, Same H H' → H p = none → H' p = some (.lst (ansV (Kh411.yes b))) → Q (.ref p) H'
/-- a call's own def: held, and the numbers told -/
def spH (K : PySem.W.Frag) (CC CD : Addr) (mk : List Nat → Option Call) : Sp := fun vs H Q _ => ∃ (h t L : Addr) (a : Abs) (ns : List Nat) (c : Call), vs = [.ref h, .ref t] ∧ HeldAt CC CD H h L a ∧ Wf a ∧ SqL K H t (nV ns) ∧ mk ns = some c ∧
  ∀ H' p L', Kept H h L H' → (L' = L ∨ H L' = none) → HeldAt CC CD H' h L' (Kh411.doesA a c).1 → H p = none → H' p = some (.lst (ansV (Kh411.doesA a c).2)) → Q (.ref p) H'
section
variable {P : Program} {w : World} {K : PySem.W.Frag} {mg : Str → Option Value} {base : Heap} {CC CD : Addr}
theorem ok_begun (D : Df K mg "is_begun" ["held"] s_is_begun) (T : HT K CC) : Ok P w K mg base "is_begun" ["held"] 1 (spBegun CC CD) := by
  refine Ok.mk D sc_is_begun (fun vs H Q E h => ?_) (fun f cdv A outer s H vs Q E hr h => ?_)
  · obtain ⟨h, L, a, rfl, _⟩ := h
    rfl
  · obtain ⟨h, L, a, rfl, ⟨⟨dx, hh⟩, _⟩, hQ⟩ := h
    refine ⟨_, (pss_one (ps_ret (pe_cmpR op_gt (pe_fld (pv 0) rfl) pe_int (nomark _)))), ?_⟩
    refine ⟨_, rfl, h, CC, dx, _, _, rfl, hh, T.cl, T.facts, hF_facts _ _ _, _, _, rfl, rfl, ?_⟩
    refine qb ?_ hQ
    by_cases c : 0 < a.m
    · rw [decide_eq_true c, decide_eq_true (show (0 : Int) < (a.m : Int) by omega)]
    · rw [decide_eq_false c, decide_eq_false (show ¬ (0 : Int) < (a.m : Int) by omega)]
theorem ok_has (D : Df K mg "has_deed" ["held", "i"] s_has_deed) (T : HT K CC) (N : Cn mg) : Ok P w K mg base "has_deed" ["held", "i"] 1 (spHas CC CD) := by
  refine Ok.mk D sc_has_deed (fun vs H Q E h => ?_) (fun f cdv A outer s H vs Q E hr h => ?_)
  · obtain ⟨h, L, a, i, rfl, _⟩ := h
    rfl
  · obtain ⟨h, L, a, i, rfl, ⟨⟨dx, hh⟩, ds, hL, hds⟩, hQ⟩ := h
    refine ⟨_, (pss_one (ps_ret (pe_cmpR op_lt (pv 1) (pe_callB call_len_seq (by rfl) N.len PySem.boot_len (pa_cons (pe_fld (pv 0) rfl) pa_nil)) (nomark _)))), ?_⟩
    refine ⟨_, rfl, _, rfl, h, CC, dx, _, _, rfl, hh, T.cl, T.deeds, hF_deeds _ _ _, L, _, rfl, .inl (SqL.of hL), _, _, rfl, rfl, ?_⟩
    refine qb ?_ hQ
    rw [List.length_map, hds.len]
    by_cases c : i < a.deeds.length
    · rw [decide_eq_true c, decide_eq_true (Int.ofNat_lt.mpr c)]
    · rw [decide_eq_false c, decide_eq_false (fun q => c (Int.ofNat_lt.mp q))]
theorem ok_isS (D : Df K mg "is_state" ["held", "s"] s_is_state) (T : HT K CC) (O1 : Ok P w K mg base "has_other_facts" ["facts", "chosen"] 2 spOtherF) : Ok P w K mg base "is_state" ["held", "s"] 3 (spIsS CC CD) := by
  obtain ⟨f1, fd1, G_has_other_facts, g_has_other_facts, k_has_other_facts, b_has_other_facts⟩ := O1
  refine Ok.mk D sc_is_state (fun vs H Q E h => ?_) (fun f cdv A outer s H vs Q E hr h => ?_)
  · obtain ⟨h, L, a, i, rfl, _⟩ := h
    rfl
  · obtain ⟨h, L, a, z, rfl, ⟨⟨dx, hh⟩, _⟩, hm, hQ⟩ := h
    have hr_has_other_facts : Room 2 _ := hr
    refine ⟨_, (pss_one (ps_ret (pe_not (pe_call G_has_other_facts hr_has_other_facts rfl g_has_other_facts k_has_other_facts b_has_other_facts .nil pass0 (pa_cons (pe_fld (pv 0) rfl) (pa_cons (pv 1) pa_nil)))))), ?_⟩
    refine ⟨_, rfl, h, CC, dx, _, _, rfl, hh, T.cl, T.facts, hF_facts _ _ _, _, rfl, a.m, z, rfl, hm, _, rfl, ?_⟩
    refine qb ?_ hQ
    by_cases c : z < 2 ^ a.m
    · rw [decide_eq_true c, decide_eq_false (by omega)]
      rfl
    · rw [decide_eq_false c, decide_eq_true (by omega)]
      rfl
theorem ok_k (D : Df K mg "is_count_of_copies" ["k"] s_is_count_of_copies) (N : Cn mg) : Ok P w K mg base "is_count_of_copies" ["k"] 1 spK := by
  refine Ok.mk D sc_is_count_of_copies (fun vs H Q E h => ?_) (fun f cdv A outer s H vs Q E hr h => ?_)
  · obtain ⟨k, rfl, _⟩ := h
    rfl
  · obtain ⟨k, rfl, hQ⟩ := h
    obtain ⟨t1, c1⟩ := N.MOST_COPIES
    refine ⟨_, (pss_one (ps_ret (pe_and (pe_cmpR op_ge (pv 0) pe_int (nomark _)) (pe_one (pe_cmpR op_le (pv 0) (pe_glob (v := .int 4) rfl c1 ⟨_, rfl⟩) (nomark _)))))), ?_⟩
    refine ⟨_, rfl, _, _, rfl, rfl, _, rfl, ?_⟩
    by_cases c : 1 ≤ k
    · rw [decide_eq_true (show (1 : Int) ≤ (k : Int) by omega)]
      refine iteT ⟨_, rfl, _, _, rfl, rfl, ?_⟩
      refine qb ?_ hQ
      by_cases c2 : k ≤ 4
      · rw [decide_eq_true (show (k : Int) ≤ 4 by omega), decide_eq_true ⟨c, c2⟩]
      · rw [decide_eq_false (show ¬ (k : Int) ≤ 4 by omega), decide_eq_false fun q => c2 q.2]
    · rw [decide_eq_false (show ¬ (1 : Int) ≤ (k : Int) by omega)]
      refine iteF ?_
      rw [decide_eq_false fun q => c q.1] at hQ
      exact hQ
theorem ok_yes (D : Df K mg "yes_or_no" ["so"] s_yes_or_no) : Ok P w K mg base "yes_or_no" ["so"] 1 spYes := by
  refine Ok.mk D sc_yes_or_no (fun vs H Q E h => ?_) (fun f cdv A outer s H vs Q E hr h => ?_)
  · obtain ⟨b, rfl, _⟩ := h
    rfl
  · obtain ⟨b, rfl, hQ⟩ := h
    refine ⟨_, (pss_one (ps_ret (pe_ifExp (pt_truth (pv 0) (by intro _; rfl)) (pe_lst (pa_cons pe_int pa_nil)) (pe_lst (pa_cons pe_int pa_nil))))), ?_⟩
    refine ⟨_, rfl, b, rfl, ?_⟩
    cases b with
    | true => exact iteT ⟨(by show 1 ≤ sizeLine; decide), fun p hp => hQ _ p (Same.new hp) hp upd_same⟩
    | false => exact iteF ⟨(by show 1 ≤ sizeLine; decide), fun p hp => hQ _ p (Same.new hp) hp upd_same⟩
end
end Kp
-- KpCalls
namespace Kp
open PySem PySem.Spec PyProof.Rows L2
open Kh411 (Deed Abs Call Ans)
/-! ### the numbers told, and the calls -/
def mkRule : List Nat → Option Call | [r] => some (.rule r) | _ => none
def mkDeed : List Nat → Option Call | [n, b, x, y] => some (.deed n b x y) | _ => none
def mkDrop : List Nat → Option Call | [i] => some (.drop i) | _ => none
def mkDeedIs : List Nat → Option Call | [i] => some (.deedIs i) | _ => none
def mkLet : List Nat → Option Call | [s] => some (.let_ s) | _ => none
def mkDoes : List Nat → Option Call | [s, i] => some (.does s i) | _ => none
def mkReach : List Nat → Option Call | [s] => some (.reach s) | _ => none
def mkTog : List Nat → Option Call | s :: _ :: r => if r.length ≤ 4 then some (.together s r) else none | _ => none
def mkKeeps : List Nat → Option Call | [k] => some (.keeps k) | _ => none
def mkBroken : List Nat → Option Call | [k] => some (.broken k) | _ => none
theorem at0 {x : V} {r : List V} : atI (x :: r) (0 : Int) = some x := atI_nat (j := 0) rfl
theorem at1 {x y : V} {r : List V} : atI (x :: y :: r) (1 : Int) = some y := atI_nat (j := 1) rfl
theorem at2 {x y z : V} {r : List V} : atI (x :: y :: z :: r) (2 : Int) = some z := atI_nat (j := 2) rfl
theorem at3 {x y z u : V} {r : List V} : atI (x :: y :: z :: u :: r) (3 : Int) = some u := atI_nat (j := 3) rfl
theorem mk1 {f : Nat → Call} {ns : List Nat} {c : Call} (h : (match ns with | [r] => some (f r) | _ => none) = some c) : ∃ r, ns = [r] ∧ c = f r := by
  match ns, h with
  | [r], h => exact ⟨r, rfl, (Option.some.inj h).symm⟩
theorem mk2 {f : Nat → Nat → Call} {ns : List Nat} {c : Call} (h : (match ns with | [r, s] => some (f r s) | _ => none) = some c) : ∃ r s, ns = [r, s] ∧ c = f r s := by
  match ns, h with
  | [r, s], h => exact ⟨r, s, rfl, (Option.some.inj h).symm⟩
theorem mk4 {f : Nat → Nat → Nat → Nat → Call} {ns : List Nat} {c : Call} (h : (match ns with | [r, s, t, u] => some (f r s t u) | _ => none) = some c) : ∃ r s t u, ns = [r, s, t, u] ∧ c = f r s t u := by
  match ns, h with
  | [r, s, t, u], h => exact ⟨r, s, t, u, rfl, (Option.some.inj h).symm⟩
theorem mkTog_of {ns : List Nat} {c : Call} (h : mkTog ns = some c) : ∃ s n r, ns = s :: n :: r ∧ r.length ≤ 4 ∧ c = .together s r := by
  match ns, h with
  | s :: n :: r, h =>
    unfold mkTog at h
    dsimp only at h
    by_cases k : r.length ≤ 4
    · rw [if_pos k] at h
      exact ⟨s, n, r, rfl, k, (Option.some.inj h).symm⟩
    · rw [if_neg k] at h
      cases h
/-! ### the object, changed -/
theorem dF_hF (d : Deed) (m r : Nat) (L : Addr) : dF d ≠ hF m r L := fun h => by
  have : (dF d).length = (hF m r L).length := congrArg _ h
  exact absurd this (by show ¬ (4 = 3); decide)
theorem DeedsAt.other {CD : Addr} {H H' : Hp} (k : ∀ p dx d, H p = some (.ins CD dx (dF d)) → H' p = some (.ins CD dx (dF d))) : ∀ {ps : List Addr} {l : List Deed}, DeedsAt CD H ps l → DeedsAt CD H' ps l
  | [], [], _ => trivial
  | p :: _, d :: _, h => ⟨h.1.elim fun dx e => ⟨dx, k p dx d e⟩, DeedsAt.other k h.2⟩
  | [], _ :: _, h => h.elim
  | _ :: _, [], h => h.elim
theorem deeds_obj {CC CD : Addr} {H : Hp} {h dx L : Addr} {m r : Nat} {o : HO} (hh : H h = some (.ins CC dx (hF m r L))) : ∀ p dx d, H p = some (.ins CD dx (dF d)) → (upd H h o) p = some (.ins CD dx (dF d)) := fun p dx' d e => by
  have : p ≠ h := ne_of e hh (by intro z; injection z with z1 z2 z3; exact dF_hF _ _ _ _ z3)
  rw [upd_ne this]
  exact e
theorem deeds_lst {CD : Addr} {H : Hp} {L : Addr} {xs : List V} {o : HO} (hL : H L = some (.lst xs)) : ∀ p dx d, H p = some (.ins CD dx (dF d)) → (upd H L o) p = some (.ins CD dx (dF d)) := fun p dx' d e => by
  have : p ≠ L := ne_of e hL (by intro z; cases z)
  rw [upd_ne this]
  exact e
theorem map_erase : ∀ (ds : List Addr) (i : Nat), (ds.map V.ref).eraseIdx i = (ds.eraseIdx i).map V.ref
  | [], _ => rfl
  | _ :: _, 0 => rfl
  | d :: ds, i + 1 => congrArg (V.ref d :: ·) (map_erase ds i)
theorem HeldAt.ne {CC CD : Addr} {H : Hp} {h L : Addr} {a : Abs} (x : HeldAt CC CD H h L a) : h ≠ L := by
  obtain ⟨⟨dx, e⟩, ds, e2, _⟩ := x
  exact ne_of e e2 (by intro z; cases z)
theorem HeldAt.set {CC CD : Addr} {H : Hp} {h dx L : Addr} {a : Abs} {m r : Nat} (x : HeldAt CC CD H h L a) : HeldAt CC CD (upd H h (.ins CC dx (hF m r L))) h L ⟨m, r, a.deeds⟩ := by
  have nL := x.ne
  obtain ⟨⟨dx0, e⟩, ds, e2, e3⟩ := x
  exact ⟨⟨dx, upd_same⟩, ds, (upd_ne nL.symm).trans e2, e3.other (deeds_obj e)⟩
theorem Kept.trans {H H1 H2 : Hp} {h L : Addr} (x : Kept H h L H1) (y : Kept H1 h L H2) : Kept H h L H2 := fun b o e n1 n2 => y b o (x b o e n1 n2) n1 n2
theorem Kept.obj {H : Hp} {h L : Addr} {o : HO} : Kept H h L (upd H h o) := fun b x e n1 _ => (upd_ne n1).trans e
theorem Kept.list {H : Hp} {h L : Addr} {o : HO} : Kept H h L (upd H L o) := fun b x e _ n2 => (upd_ne n2).trans e
theorem Kept.new {H : Hp} {h L p : Addr} {o : HO} (hp : H p = none) : Kept H h L (upd H p o) := Same.kept (Same.new hp) h L
theorem upd_none {H : Hp} {p q : Addr} {o : HO} (h : (upd H q o) p = none) : H p = none := by
  by_cases e : p = q
  · rw [e, upd_same] at h
    cases h
  · rw [upd_ne e] at h
    exact h
/-! ### the deeds' form -/
theorem or_lt_iff (m x y : Nat) : x ||| y < 2 ^ m ↔ x < 2 ^ m ∧ y < 2 ^ m :=
  ⟨fun h => ⟨Nat.lt_of_le_of_lt Nat.left_le_or h, Nat.lt_of_le_of_lt Nat.right_le_or h⟩, fun h => Nat.or_lt_two_pow h.1 h.2⟩
theorem isD_iff (m : Nat) (d : Deed) : isD m d = true ↔ DOk m d := by
  unfold isD
  rw [Bool.and_eq_true, Bool.and_eq_true, Bool.not_eq_true', decide_eq_false_iff_not, decide_eq_true_eq, decide_eq_true_eq, Nat.not_le, or_lt_iff, or_lt_iff, or_lt_iff]
  exact ⟨fun ⟨⟨⟨⟨h1, h2⟩, h3⟩, h4⟩, h5, h6⟩ => ⟨h1, h2, h3, h4, h5, h6⟩, fun h => ⟨⟨⟨⟨h.need, h.be⟩, h.on⟩, h.off⟩, h.sub, h.apart⟩⟩
theorem okDeed_iff (a : Abs) (d : Deed) : Kh411.okDeed a d = true ↔ DOk a.m d := by
  unfold Kh411.okDeed
  simp only [Bool.and_eq_true, decide_eq_true_eq, beq_iff_eq]
  constructor
  · rintro ⟨h1, h2, h3, h4, h5, h6⟩
    rw [Ka.meet_and h1, Nat.and_comm] at h2
    rw [Ka.meet_and h4] at h6
    exact ⟨h1, h3, h4, h5, h2, h6⟩
  · intro h
    refine ⟨h.need, ?_, h.be, h.on, h.off, ?_⟩
    · rw [Ka.meet_and h.need, Nat.and_comm]
      exact h.sub
    · rw [Ka.meet_and h.on]
      exact h.apart
theorem isD_okDeed (a : Abs) (d : Deed) : isD a.m d = Kh411.okDeed a d := by
  have h1 := isD_iff a.m d
  have h2 := okDeed_iff a d
  cases e1 : isD a.m d <;> cases e2 : Kh411.okDeed a d <;> simp_all
/-! ### what is wanted of a call -/
theorem wants_pure {CC CD : Addr} {H H1 : Hp} {h L p : Addr} {a : Abs} {c : Call} {Q : VK} {ans : Ans} {xs : List V}
    (hQ : ∀ H' p L', Kept H h L H' → (L' = L ∨ H L' = none) → HeldAt CC CD H' h L' (Kh411.doesA a c).1 → H p = none → H' p = some (.lst (ansV (Kh411.doesA a c).2)) → Q (.ref p) H')
    (hH : HeldAt CC CD H h L a) (s1 : Same H H1) (e : Kh411.doesA a c = (a, ans)) (ex : xs = ansV ans) (hp : H p = none) (hp1 : H1 p = some (.lst xs)) : Q (.ref p) H1 := by
  rw [e] at hQ
  exact hQ _ p L (Same.kept s1 h L) (.inl rfl) (hH.same s1) hp (by rw [hp1, ex])
theorem wants_new {CC CD : Addr} {H H1 : Hp} {h L : Addr} {a : Abs} {c : Call} {Q : VK} {ans : Ans} {xs : List V}
    (hQ : ∀ H' p L', Kept H h L H' → (L' = L ∨ H L' = none) → HeldAt CC CD H' h L' (Kh411.doesA a c).1 → H p = none → H' p = some (.lst (ansV (Kh411.doesA a c).2)) → Q (.ref p) H')
    (hH : HeldAt CC CD H h L a) (s1 : Same H H1) (e : Kh411.doesA a c = (a, ans)) (ex : xs = ansV ans) : ∀ p, H1 p = none → Q (.ref p) (upd H1 p (.lst xs)) := fun p hp =>
  wants_pure hQ hH (Same.none_upd s1 (s1.free hp)) e ex (s1.free hp) upd_same
theorem one_ok : 1 ≤ sizeLine := by decide
/-! ### a deed made -/
def spDeed (CD : Addr) : Sp := fun vs H Q _ => ∃ (p dx : Addr) (d : Deed), vs = [.ref p, .int (d.need : Int), .int (d.be : Int), .int (d.on : Int), .int (d.off : Int)] ∧ H p = some (.ins CD dx []) ∧
  ∀ H' : Hp, H' p = some (.ins CD dx (dF d)) → (∀ b o, H b = some o → b ≠ p → H' b = some o) → Q .non H'
def OkMk (P : Program) (w : World) (K : PySem.W.Frag) (mg : Str → Option Value) (base : Heap) (x : Str) (C : Addr) (ps : List Str) (k : Nat) (sp : Sp) : Prop :=
  ∃ f fd, Mk K C f ∧ FnOk P w K mg base CX0 k f fd ps sp ∧ mg x = some (.ref C) ∧ Binds K fd ps []
section
variable {P : Program} {w : World} {K : PySem.W.Frag} {mg : Str → Option Value} {base : Heap} {CC CD : Addr}
theorem ok_Deed {f : Addr} {fd : FuncData} (F : Fun K "__init__" "Deed.__init__" s_Deed_init f fd) (T : CT K CD) : FnOk P w K mg base CX0 1 f fd ["self", "need", "be", "on", "off"] (spDeed CD) := by
  refine F.ok sc_Deed_init (fun vs H Q E h => ?_) (fun cdv A outer s H vs Q E hr h => ?_)
  · obtain ⟨p, dx, d, rfl, _⟩ := h
    rfl
  · obtain ⟨p, dx, d, rfl, hp, k⟩ := h
    refine ⟨_, (pss_cons (ps_fld (pv 0) (pv 1) rfl) (pss_cons (ps_fld (pv 0) (pv 2) rfl) (pss_cons (ps_fld (pv 0) (pv 3) rfl) (pss_one (ps_fld (pv 0) (pv 4) rfl))))), ?_⟩
    refine ⟨_, rfl, _, rfl, p, CD, dx, [], rfl, hp, T.cl, T.need, (by show 0 < 1000; decide), ?_⟩
    refine ⟨_, rfl, _, rfl, p, CD, dx, _, rfl, upd_same, T.cl, T.be, (by show 1 < 1000; decide), ?_⟩
    refine ⟨_, rfl, _, rfl, p, CD, dx, _, rfl, upd_same, T.cl, T.on, (by rw [show putF "be" (V.int (d.be : Int)) (putF "need" (V.int (d.need : Int)) []) = [(("need" : Str), V.int d.need), (("be" : Str), V.int d.be)] from put_past (by decide +kernel)]; show 2 < 1000; decide), ?_⟩
    refine ⟨_, rfl, _, rfl, p, CD, dx, _, rfl, upd_same, T.cl, T.off, (by rw [show putF "be" (V.int (d.be : Int)) (putF "need" (V.int (d.need : Int)) []) = [(("need" : Str), V.int d.need), (("be" : Str), V.int d.be)] from put_past (by decide +kernel), show putF "on" (V.int (d.on : Int)) [(("need" : Str), V.int d.need), (("be" : Str), V.int d.be)] = [(("need" : Str), V.int d.need), (("be" : Str), V.int d.be), (("on" : Str), V.int d.on)] from (put_past (by decide +kernel)).trans (congrArg _ (put_past (by decide +kernel)))]; show 3 < 1000; decide), ?_⟩
    rw [dF_new]
    exact k _ upd_same fun b o e hb => by
      rw [upd_ne hb, upd_ne hb, upd_ne hb, upd_ne hb]
      exact e
theorem ok_answer_rule (D : Df K mg "answer_rule" ["held", "told"] s_answer_rule) (T : CT K CD) (TH : HT K CC) (N : Cn mg)
    (O_has_other_states : Ok P w K mg base "has_other_states" ["facts", "rule"] 3 (spOtherS)) :
    Ok P w K mg base "answer_rule" ["held", "told"] 4 (spH K CC CD mkRule) := by
  obtain ⟨f_has_other_states, fd_has_other_states, G_has_other_states, g_has_other_states, k_has_other_states, b_has_other_states⟩ := O_has_other_states
  obtain ⟨t_NOT_AS_TOLD, c_NOT_AS_TOLD⟩ := N.NOT_AS_TOLD
  refine Ok.mk D sc_answer_rule (fun vs H Q E h => ?_) (fun f cdv A outer s H vs Q E hr h => ?_)
  · obtain ⟨h, t, L, a, ns, c, rfl, _⟩ := h
    rfl
  · obtain ⟨h, t, L, a, ns, c, rfl, hH, hwf, ht, hmk, hQ⟩ := h
    obtain ⟨r, rfl, rfl⟩ := mk1 hmk
    obtain ⟨⟨dx, hh⟩, ds, hL, hds⟩ := id hH
    have hu := hu_of hr
    have hr_has_other_states : Room 3 _ := hr.mono (by decide)
    refine ⟨_, (pss_cons (ps_if (pt_val (pe_call G_has_other_states hr_has_other_states rfl g_has_other_states k_has_other_states b_has_other_states .nil pass0 (pa_cons (pe_fld (pv 0) rfl) (pa_cons (pe_ix ix_list (pv 1) pe_int (fun _ _ => rfl)) pa_nil)))) (pss_one (ps_ret (pe_lst (pa_cons (pe_glob (v := .int (-22)) rfl c_NOT_AS_TOLD ⟨_, rfl⟩) pa_nil)))) pss_nil)
        (pss_cons (ps_fld (pv 0) (pe_ix ix_list (pv 1) pe_int (fun _ _ => rfl)) rfl)
        (pss_one (ps_ret (pe_lst (pa_cons pe_int pa_nil)))))), ?_⟩
    refine ⟨_, rfl, h, CC, dx, _, _, rfl, hh, TH.cl, TH.facts, hF_facts _ _ _, _, rfl, t, _, _, _, rfl, rfl, ht, at0, a.m, r, rfl, hwf.m4, _, rfl, ?_⟩
    by_cases c : 2 ^ 2 ^ a.m ≤ r
    · rw [decide_eq_true c]
      exact iteT ⟨one_ok, wants_new hQ hH (Same.refl H) (if_pos c) rfl⟩
    · rw [decide_eq_false c]
      refine iteF ⟨_, rfl, t, _, _, _, rfl, rfl, ht, at0, _, rfl, h, CC, dx, _, rfl, hh, TH.cl, TH.rule, (by show 3 < 1000; decide), ?_⟩
      rw [hF_prule]
      refine ⟨one_ok, fun p hp => ?_⟩
      have e : Kh411.doesA a (.rule r) = (⟨a.m, r, a.deeds⟩, Kh411.say 0) := if_neg c
      rw [e] at hQ
      exact hQ _ p L (Kept.obj.trans (Kept.new hp)) (.inl rfl) ((hH.set (dx := dx)).same (Same.new hp)) (upd_none hp) upd_same
theorem ok_answer_drop (D : Df K mg "answer_drop" ["held", "told"] s_answer_drop) (T : CT K CD) (TH : HT K CC) (N : Cn mg)
    (O_has_deed : Ok P w K mg base "has_deed" ["held", "i"] 1 (spHas CC CD)) :
    Ok P w K mg base "answer_drop" ["held", "told"] 2 (spH K CC CD mkDrop) := by
  obtain ⟨f_has_deed, fd_has_deed, G_has_deed, g_has_deed, k_has_deed, b_has_deed⟩ := O_has_deed
  obtain ⟨t_NO_SUCH_DEED, c_NO_SUCH_DEED⟩ := N.NO_SUCH_DEED
  refine Ok.mk D sc_answer_drop (fun vs H Q E h => ?_) (fun f cdv A outer s H vs Q E hr h => ?_)
  · obtain ⟨h, t, L, a, ns, c, rfl, _⟩ := h
    rfl
  · obtain ⟨h, t, L, a, ns, c, rfl, hH, hwf, ht, hmk, hQ⟩ := h
    obtain ⟨i, rfl, rfl⟩ := mk1 hmk
    obtain ⟨⟨dx, hh⟩, ds, hL, hds⟩ := id hH
    have hu := hu_of hr
    have hr_has_deed : Room 1 _ := hr.mono (by decide)
    refine ⟨_, (pss_cons (ps_if (pt_not (pt_val (pe_call G_has_deed hr_has_deed rfl g_has_deed k_has_deed b_has_deed .nil pass0 (pa_cons (pv 0) (pa_cons (pe_ix ix_list (pv 1) pe_int (fun _ _ => rfl)) pa_nil))))) (pss_one (ps_ret (pe_lst (pa_cons (pe_glob (v := .int (-2)) rfl c_NO_SUCH_DEED ⟨_, rfl⟩) pa_nil)))) pss_nil)
        (pss_cons (ps_expr (pe_bm PySem.F.plainAttrs_list PySem.F.slot_list_pop PySem.F.type_list_pop mt_popAt (pe_fld (pv 0) rfl) (pa_cons (pe_ix ix_list (pv 1) pe_int (fun _ _ => rfl)) pa_nil)))
        (pss_one (ps_ret (pe_lst (pa_cons (pe_callB call_len_seq (by rfl) N.len PySem.boot_len (pa_cons (pe_fld (pv 0) rfl) pa_nil)) pa_nil)))))), ?_⟩
    refine ⟨_, rfl, _, rfl, t, _, _, _, rfl, rfl, ht, at0, h, L, a, i, rfl, hH, _, rfl, ?_⟩
    by_cases c : i < a.deeds.length
    · rw [decide_eq_true c]
      have hn := hds.len
      have hi : i < ds.length := by omega
      refine iteF ⟨_, rfl, h, CC, dx, _, _, rfl, hh, TH.cl, TH.deeds, hF_deeds _ _ _, .inl ⟨rfl, _, SqL.of hL⟩, _, rfl, t, _, _, _, rfl, rfl, ht, at0, L, _, _, i, V.ref ds[i], rfl, rfl, hL, by omega, by have := hwf.len; omega, ?_, ?_, ?_⟩
      · rw [List.length_map]
        exact seqIndex_of (k := (i : Int)) (by omega) (by omega)
      · rw [List.getElem?_map, List.getElem?_eq_getElem hi]
        rfl
      have e1 : (ds.map V.ref).eraseIdx i = (ds.eraseIdx i).map V.ref := map_erase ds i
      rw [e1]
      have nhL := hH.ne
      refine ⟨_, rfl, h, CC, dx, _, _, rfl, (upd_ne nhL).trans hh, TH.cl, TH.deeds, hF_deeds _ _ _, L, _, rfl, .inl (SqL.of upd_same), one_ok, fun p hp => ?_⟩
      have e : Kh411.doesA a (.drop i) = (⟨a.m, a.rule, a.deeds.eraseIdx i⟩, Kh411.say ((a.deeds.length - 1 : Nat) : Int)) := if_neg (by omega)
      rw [e] at hQ
      refine hQ _ p L (Kept.list.trans (Kept.new hp)) (.inl rfl) (HeldAt.same (Same.new hp) ⟨⟨dx, (upd_ne nhL).trans hh⟩, ds.eraseIdx i, upd_same, (hds.erase i).other (deeds_lst hL)⟩) (upd_none hp) ?_
      rw [upd_same, List.length_map, List.length_eraseIdx_of_lt hi, hn]
      rfl
    · rw [decide_eq_false c]
      exact iteT ⟨one_ok, wants_new hQ hH (Same.refl H) (if_pos (by omega)) rfl⟩
theorem ok_answer_deed_is (D : Df K mg "answer_deed_is" ["held", "told"] s_answer_deed_is) (T : CT K CD) (TH : HT K CC) (N : Cn mg)
    (O_has_deed : Ok P w K mg base "has_deed" ["held", "i"] 1 (spHas CC CD)) :
    Ok P w K mg base "answer_deed_is" ["held", "told"] 2 (spH K CC CD mkDeedIs) := by
  obtain ⟨f_has_deed, fd_has_deed, G_has_deed, g_has_deed, k_has_deed, b_has_deed⟩ := O_has_deed
  obtain ⟨t_NO_SUCH_DEED, c_NO_SUCH_DEED⟩ := N.NO_SUCH_DEED
  refine Ok.mk D sc_answer_deed_is (fun vs H Q E h => ?_) (fun f cdv A outer s H vs Q E hr h => ?_)
  · obtain ⟨h, t, L, a, ns, c, rfl, _⟩ := h
    rfl
  · obtain ⟨h, t, L, a, ns, c, rfl, hH, hwf, ht, hmk, hQ⟩ := h
    obtain ⟨i, rfl, rfl⟩ := mk1 hmk
    obtain ⟨⟨dx, hh⟩, ds, hL, hds⟩ := id hH
    have hu := hu_of hr
    have hr_has_deed : Room 1 _ := hr.mono (by decide)
    refine ⟨_, (pss_cons (ps_if (pt_not (pt_val (pe_call G_has_deed hr_has_deed rfl g_has_deed k_has_deed b_has_deed .nil pass0 (pa_cons (pv 0) (pa_cons (pe_ix ix_list (pv 1) pe_int (fun _ _ => rfl)) pa_nil))))) (pss_one (ps_ret (pe_lst (pa_cons (pe_glob (v := .int (-2)) rfl c_NO_SUCH_DEED ⟨_, rfl⟩) pa_nil)))) pss_nil)
        (pss_cons (ps_set (i := 2) sc_answer_deed_is.nd rfl (Or.inl rfl) (pe_ix ix_list (pe_fld (pv 0) rfl) (pe_ix ix_list (pv 1) pe_int (fun _ _ => rfl)) (fun _ _ => rfl)))
        (pss_one (ps_ret (pe_lst (pa_cons pe_int (pa_cons (pe_fld (pv 2) rfl) (pa_cons (pe_fld (pv 2) rfl) (pa_cons (pe_fld (pv 2) rfl) (pa_cons (pe_fld (pv 2) rfl) pa_nil)))))))))), ?_⟩
    refine ⟨_, rfl, _, rfl, t, _, _, _, rfl, rfl, ht, at0, h, L, a, i, rfl, hH, _, rfl, ?_⟩
    by_cases c : i < a.deeds.length
    · rw [decide_eq_true c]
      have hn := hds.len
      have hi : i < ds.length := by omega
      obtain ⟨d, hd, ⟨dxd, hD⟩⟩ := hds.get (List.getElem?_eq_getElem hi)
      refine iteF ⟨_, rfl, h, CC, dx, _, _, rfl, hh, TH.cl, TH.deeds, hF_deeds _ _ _, _, rfl, t, _, _, _, rfl, rfl, ht, at0, L, _, _, V.ref ds[i], rfl, rfl, SqL.of hL, atI_nat (j := i) (by rw [List.getElem?_map, List.getElem?_eq_getElem hi]; rfl), ?_⟩
      refine ⟨_, rfl, ds[i], CD, dxd, _, _, rfl, hD, T.cl, T.need, dF_need d, _, rfl, ds[i], CD, dxd, _, _, rfl, hD, T.cl, T.be, dF_be d, _, rfl, ds[i], CD, dxd, _, _, rfl, hD, T.cl, T.on, dF_on d, _, rfl, ds[i], CD, dxd, _, _, rfl, hD, T.cl, T.off, dF_off d, (by show 5 ≤ sizeLine; decide), ?_⟩
      refine wants_new hQ hH (Same.refl H) (ans := Kh411.nats 4 [d.need, d.be, d.on, d.off]) ?_ rfl
      show (a, match a.deeds[i]? with | none => _ | some d => _) = _
      rw [hd]
    · rw [decide_eq_false c]
      refine iteT ⟨one_ok, wants_new hQ hH (Same.refl H) (ans := Kh411.say (-2)) ?_ rfl⟩
      show (a, match a.deeds[i]? with | none => _ | some d => _) = _
      rw [List.getElem?_eq_none (by omega)]
theorem ok_answer_let (D : Df K mg "answer_let" ["held", "told"] s_answer_let) (T : CT K CD) (TH : HT K CC) (N : Cn mg)
    (O_yes_or_no : Ok P w K mg base "yes_or_no" ["so"] 1 (spYes))
    (O_is_state : Ok P w K mg base "is_state" ["held", "s"] 3 (spIsS CC CD))
    (O_is_let : Ok P w K mg base "is_let" ["rule", "s"] 2 (spLet)) :
    Ok P w K mg base "answer_let" ["held", "told"] 4 (spH K CC CD mkLet) := by
  obtain ⟨f_yes_or_no, fd_yes_or_no, G_yes_or_no, g_yes_or_no, k_yes_or_no, b_yes_or_no⟩ := O_yes_or_no
  obtain ⟨f_is_state, fd_is_state, G_is_state, g_is_state, k_is_state, b_is_state⟩ := O_is_state
  obtain ⟨f_is_let, fd_is_let, G_is_let, g_is_let, k_is_let, b_is_let⟩ := O_is_let
  obtain ⟨t_NOT_AS_TOLD, c_NOT_AS_TOLD⟩ := N.NOT_AS_TOLD
  refine Ok.mk D sc_answer_let (fun vs H Q E h => ?_) (fun f cdv A outer s H vs Q E hr h => ?_)
  · obtain ⟨h, t, L, a, ns, c, rfl, _⟩ := h
    rfl
  · obtain ⟨h, t, L, a, ns, c, rfl, hH, hwf, ht, hmk, hQ⟩ := h
    obtain ⟨z, rfl, rfl⟩ := mk1 hmk
    obtain ⟨⟨dx, hh⟩, ds, hL, hds⟩ := id hH
    have hu := hu_of hr
    have hr_yes_or_no : Room 1 _ := hr.mono (by decide)
    have hr_is_state : Room 3 _ := hr.mono (by decide)
    have hr_is_let : Room 2 _ := hr.mono (by decide)
    refine ⟨_, (pss_cons (ps_if (pt_not (pt_val (pe_call G_is_state hr_is_state rfl g_is_state k_is_state b_is_state .nil pass0 (pa_cons (pv 0) (pa_cons (pe_ix ix_list (pv 1) pe_int (fun _ _ => rfl)) pa_nil))))) (pss_one (ps_ret (pe_lst (pa_cons (pe_glob (v := .int (-22)) rfl c_NOT_AS_TOLD ⟨_, rfl⟩) pa_nil)))) pss_nil)
        (pss_one (ps_ret (pe_call G_yes_or_no hr_yes_or_no rfl g_yes_or_no k_yes_or_no b_yes_or_no .nil pass0 (pa_cons (pe_call G_is_let hr_is_let rfl g_is_let k_is_let b_is_let .nil pass0 (pa_cons (pe_fld (pv 0) rfl) (pa_cons (pe_ix ix_list (pv 1) pe_int (fun _ _ => rfl)) pa_nil))) pa_nil))))), ?_⟩
    refine ⟨_, rfl, _, rfl, t, _, _, _, rfl, rfl, ht, at0, h, L, a, z, rfl, hH, hwf.m4, _, rfl, ?_⟩
    by_cases c : z < 2 ^ a.m
    · rw [decide_eq_true c]
      have e : Kh411.doesA a (.let_ z) = (a, Kh411.yes (Kh411.let_ a z)) := by
        show (a, if Kh411.isS a z = false then _ else _) = _
        unfold Kh411.isS
        rw [decide_eq_true c, if_neg (by decide)]
      refine iteF ⟨_, rfl, h, CC, dx, _, _, rfl, hh, TH.cl, TH.rule, hF_rule _ _ _, _, rfl, t, _, _, _, rfl, rfl, ht, at0, a.rule, z, rfl, _, rfl, fun H' p s1 hp hp1 => ?_⟩
      refine wants_pure hQ hH s1 e ?_ hp hp1
      rw [show Kh411.let_ a z = a.rule.testBit z from Ka.has_tb _ _]
    · rw [decide_eq_false c]
      refine iteT ⟨one_ok, wants_new hQ hH (Same.refl H) (ans := Kh411.say (-22)) ?_ rfl⟩
      show (a, if Kh411.isS a z = false then _ else _) = _
      unfold Kh411.isS
      rw [decide_eq_false c, if_pos rfl]
end
end Kp
-- KpCalls2
namespace Kp
open PySem PySem.Spec PyProof.Rows L2
open Kh411 (Deed Abs Call Ans)
theorem Same.made {H H1 : Hp} {x dx C : Addr} (hx : H x = none) (hdx : H dx = none) (k : ∀ b o, (upd (upd H dx (.own x)) x (.ins C dx [])) b = some o → b ≠ x → H1 b = some o) : Same H H1 := fun b o e => by
  have n1 : b ≠ x := ne_of_none e hx
  have n2 : b ≠ dx := ne_of_none e hdx
  exact k b o ((upd_ne n1).trans ((upd_ne n2).trans e)) n1
theorem cut_from {xs : List V} {i : Nat} (h : i ≤ xs.length) : cutV xs (some (i : Int)) none = xs.drop i := by
  unfold cutV
  rw [HT.sIx_nat, HT.sIx_none, Nat.min_eq_left h, ← List.length_drop, List.take_length]
theorem cut_mid {xs : List V} {i j : Nat} (hi : i ≤ xs.length) (hj : j ≤ xs.length) : cutV xs (some (i : Int)) (some (j : Int)) = (xs.drop i).take (j - i) := by
  unfold cutV
  rw [HT.sIx_nat, HT.sIx_nat, Nat.min_eq_left hi, Nat.min_eq_left hj]
theorem isS_t {a : Abs} {z : Nat} (c : z < 2 ^ a.m) : Kh411.isS a z = true := decide_eq_true c
theorem isS_f {a : Abs} {z : Nat} (c : ¬ z < 2 ^ a.m) : Kh411.isS a z = false := decide_eq_false c
section
variable {P : Program} {w : World} {K : PySem.W.Frag} {mg : Str → Option Value} {base : Heap} {CC CD : Addr}
theorem ok_answer_deed (D : Df K mg "answer_deed" ["held", "told"] s_answer_deed) (T : CT K CD) (TH : HT K CC) (N : Cn mg)
    (O_is_deed : Ok P w K mg base "is_deed" ["facts", "deed"] 3 (spIsDeed CD))
    (O_Deed : OkMk P w K mg base "Deed" CD ["self", "need", "be", "on", "off"] 1 (spDeed CD)) :
    Ok P w K mg base "answer_deed" ["held", "told"] 4 (spH K CC CD mkDeed) := by
  obtain ⟨f_is_deed, fd_is_deed, G_is_deed, g_is_deed, k_is_deed, b_is_deed⟩ := O_is_deed
  obtain ⟨f_Deed, fd_Deed, M_Deed, G_Deed, g_Deed, b_Deed⟩ := O_Deed
  obtain ⟨t_NOT_AS_TOLD, c_NOT_AS_TOLD⟩ := N.NOT_AS_TOLD
  obtain ⟨t_MOST_DEEDS, c_MOST_DEEDS⟩ := N.MOST_DEEDS
  obtain ⟨t_NO_MORE_DEEDS, c_NO_MORE_DEEDS⟩ := N.NO_MORE_DEEDS
  refine Ok.mk D sc_answer_deed (fun vs H Q E h => ?_) (fun f cdv A outer s H vs Q E hr h => ?_)
  · obtain ⟨h, t, L, a, ns, c, rfl, _⟩ := h
    rfl
  · obtain ⟨h, t, L, a, ns, c, rfl, hH, hwf, ht, hmk, hQ⟩ := h
    obtain ⟨n1, n2, n3, n4, rfl, rfl⟩ := mk4 hmk
    have hu := hu_of hr
    have hr_is_deed : Room 3 _ := hr.mono (by decide)
    have hr_Deed : Room 2 _ := hr.mono (by decide)
    refine ⟨_, (pss_cons (ps_set (i := 2) sc_answer_deed.nd rfl (Or.inl rfl) (pe_make M_Deed G_Deed hr_Deed rfl g_Deed b_Deed .nil pass0 (pa_cons (pe_ix ix_list (pv 1) pe_int (fun _ _ => rfl)) (pa_cons (pe_ix ix_list (pv 1) pe_int (fun _ _ => rfl)) (pa_cons (pe_ix ix_list (pv 1) pe_int (fun _ _ => rfl)) (pa_cons (pe_ix ix_list (pv 1) pe_int (fun _ _ => rfl)) pa_nil))))))
        (pss_cons (ps_if (pt_not (pt_val (pe_call G_is_deed hr_is_deed rfl g_is_deed k_is_deed b_is_deed .nil pass0 (pa_cons (pe_fld (pv 0) rfl) (pa_cons (pv 2) pa_nil))))) (pss_one (ps_ret (pe_lst (pa_cons (pe_glob (v := .int (-22)) rfl c_NOT_AS_TOLD ⟨_, rfl⟩) pa_nil)))) pss_nil)
        (pss_cons (ps_if (pt_cmpR op_eq (pe_callB call_len_seq (by rfl) N.len PySem.boot_len (pa_cons (pe_fld (pv 0) rfl) pa_nil)) (pe_glob (v := .int 6) rfl c_MOST_DEEDS ⟨_, rfl⟩) (nomark _)) (pss_one (ps_ret (pe_lst (pa_cons (pe_glob (v := .int (-28)) rfl c_NO_MORE_DEEDS ⟨_, rfl⟩) pa_nil)))) pss_nil)
        (pss_cons (ps_expr (pe_bm PySem.F.plainAttrs_list PySem.F.slot_list_append PySem.F.type_list_append mt_append (pe_fld (pv 0) rfl) (pa_cons (pv 2) pa_nil)))
        (pss_one (ps_ret (pe_lst (pa_cons (pe_op op_sub (pe_callB call_len_seq (by rfl) N.len PySem.boot_len (pa_cons (pe_fld (pv 0) rfl) pa_nil)) pe_int) pa_nil)))))))), ?_⟩
    refine ⟨_, rfl, t, _, _, _, rfl, rfl, ht, at0, _, rfl, t, _, _, _, rfl, rfl, ht, at1, _, rfl, t, _, _, _, rfl, rfl, ht, at2, _, rfl, t, _, _, _, rfl, rfl, ht, at3, fun x dxn hx hdx nex => ?_⟩
    refine ⟨x, dxn, ⟨n1, n2, n3, n4⟩, rfl, upd_same, fun H1 hx1 kx => ⟨rfl, ?_⟩⟩
    have s1 : Same H H1 := Same.made hx hdx kx
    have hH1 := hH.same s1
    obtain ⟨⟨dx, hh⟩, ds, hL, hds⟩ := id hH1
    refine ⟨_, rfl, h, CC, dx, _, _, rfl, hh, TH.cl, TH.facts, hF_facts _ _ _, _, rfl, a.m, x, ⟨n1, n2, n3, n4⟩, rfl, hwf.m4, ⟨dxn, hx1⟩, _, rfl, ?_⟩
    rw [isD_okDeed]
    have e0 : Kh411.doesA a (.deed n1 n2 n3 n4) = if Kh411.okDeed a ⟨n1, n2, n3, n4⟩ = false then (a, Kh411.say (-22)) else if Kh411.DEEDS ≤ a.deeds.length then (a, Kh411.say (-28)) else ({ a with deeds := a.deeds ++ [⟨n1, n2, n3, n4⟩] }, Kh411.say a.deeds.length) := rfl
    cases c : Kh411.okDeed a ⟨n1, n2, n3, n4⟩ with
    | false =>
      refine iteT ⟨one_ok, wants_new hQ hH s1 (ans := Kh411.say (-22)) ?_ rfl⟩
      rw [e0, if_pos c]
    | true =>
      rw [c, if_neg (by decide)] at e0
      refine iteF ?_
      refine ⟨_, rfl, h, CC, dx, _, _, rfl, hh, TH.cl, TH.deeds, hF_deeds _ _ _, L, _, rfl, .inl (SqL.of hL), rfl, _, rfl, ?_⟩
      rw [dec_int, List.length_map, hds.len]
      have ln := hwf.len
      by_cases c6 : a.deeds.length = 6
      · rw [decide_eq_true (show ((a.deeds.length : Nat) : Int) = 6 by omega)]
        refine iteT ⟨one_ok, wants_new hQ hH s1 (ans := Kh411.say (-28)) ?_ rfl⟩
        rw [e0, if_pos (by show 6 ≤ _; omega)]
      · rw [decide_eq_false (show ¬ ((a.deeds.length : Nat) : Int) = 6 by omega)]
        rw [if_neg (by show ¬ 6 ≤ _; omega)] at e0
        rw [e0] at hQ
        have nhL := hH1.ne
        refine iteF ⟨_, rfl, h, CC, dx, _, _, rfl, hh, TH.cl, TH.deeds, hF_deeds _ _ _, .inl ⟨rfl, _, SqL.of hL⟩, _, rfl, L, _, _, rfl, rfl, hL, small1000 (by rw [List.length_map, hds.len]; omega), ?_⟩
        have el : ds.map V.ref ++ [V.ref x] = (ds ++ [x]).map V.ref := by rw [List.map_append]; rfl
        rw [el]
        refine ⟨_, rfl, h, CC, dx, _, _, rfl, (upd_ne nhL).trans hh, TH.cl, TH.deeds, hF_deeds _ _ _, L, _, rfl, .inl (SqL.of upd_same), _, _, rfl, rfl, one_ok, fun p hp => ?_⟩
        refine hQ _ p L ((Same.kept s1 h L).trans (Kept.list.trans (Kept.new hp))) (.inl rfl) (HeldAt.same (Same.new hp) ⟨⟨dx, (upd_ne nhL).trans hh⟩, ds ++ [x], upd_same, (hds.app ⟨dxn, hx1⟩).other (deeds_lst hL)⟩) (s1.free (upd_none hp)) ?_
        rw [upd_same, List.length_map, List.length_append, hds.len]
        show some (HO.lst [V.int (((a.deeds.length + 1 : Nat) : Int) - 1)]) = some (HO.lst [V.int (a.deeds.length : Int)])
        rw [show ((a.deeds.length + 1 : Nat) : Int) - 1 = (a.deeds.length : Int) by omega]
theorem ok_answer_does (D : Df K mg "answer_does" ["held", "told"] s_answer_does) (T : CT K CD) (TH : HT K CC) (N : Cn mg)
    (O_has_deed : Ok P w K mg base "has_deed" ["held", "i"] 1 (spHas CC CD))
    (O_is_state : Ok P w K mg base "is_state" ["held", "s"] 3 (spIsS CC CD))
    (O_has_what_it_needs : Ok P w K mg base "has_what_it_needs" ["deed", "s"] 1 (spNeeds CD))
    (O_is_let : Ok P w K mg base "is_let" ["rule", "s"] 2 (spLet))
    (O_state_after : Ok P w K mg base "state_after" ["deed", "s"] 1 (spAfter CD)) :
    Ok P w K mg base "answer_does" ["held", "told"] 4 (spH K CC CD mkDoes) := by
  obtain ⟨f_has_deed, fd_has_deed, G_has_deed, g_has_deed, k_has_deed, b_has_deed⟩ := O_has_deed
  obtain ⟨f_is_state, fd_is_state, G_is_state, g_is_state, k_is_state, b_is_state⟩ := O_is_state
  obtain ⟨f_has_what_it_needs, fd_has_what_it_needs, G_has_what_it_needs, g_has_what_it_needs, k_has_what_it_needs, b_has_what_it_needs⟩ := O_has_what_it_needs
  obtain ⟨f_is_let, fd_is_let, G_is_let, g_is_let, k_is_let, b_is_let⟩ := O_is_let
  obtain ⟨f_state_after, fd_state_after, G_state_after, g_state_after, k_state_after, b_state_after⟩ := O_state_after
  obtain ⟨t_NO_SUCH_DEED, c_NO_SUCH_DEED⟩ := N.NO_SUCH_DEED
  obtain ⟨t_NOT_AS_TOLD, c_NOT_AS_TOLD⟩ := N.NOT_AS_TOLD
  obtain ⟨t_NEED_NOT_SO, c_NEED_NOT_SO⟩ := N.NEED_NOT_SO
  obtain ⟨t_NOT_LET, c_NOT_LET⟩ := N.NOT_LET
  refine Ok.mk D sc_answer_does (fun vs H Q E h => ?_) (fun f cdv A outer s H vs Q E hr h => ?_)
  · obtain ⟨h, t, L, a, ns, c, rfl, _⟩ := h
    rfl
  · obtain ⟨h, t, L, a, ns, c, rfl, hH, hwf, ht, hmk, hQ⟩ := h
    obtain ⟨z, i, rfl, rfl⟩ := mk2 hmk
    obtain ⟨⟨dx, hh⟩, ds, hL, hds⟩ := id hH
    have hu := hu_of hr
    have hr_has_deed : Room 1 _ := hr.mono (by decide)
    have hr_is_state : Room 3 _ := hr.mono (by decide)
    have hr_has_what_it_needs : Room 1 _ := hr.mono (by decide)
    have hr_is_let : Room 2 _ := hr.mono (by decide)
    have hr_state_after : Room 1 _ := hr.mono (by decide)
    refine ⟨_, (pss_cons (ps_set (i := 2) sc_answer_does.nd rfl (Or.inl rfl) (pe_ix ix_list (pv 1) pe_int (fun _ _ => rfl)))
        (pss_cons (ps_if (pt_not (pt_val (pe_call G_has_deed hr_has_deed rfl g_has_deed k_has_deed b_has_deed .nil pass0 (pa_cons (pv 0) (pa_cons (pe_ix ix_list (pv 1) pe_int (fun _ _ => rfl)) pa_nil))))) (pss_one (ps_ret (pe_lst (pa_cons (pe_glob (v := .int (-2)) rfl c_NO_SUCH_DEED ⟨_, rfl⟩) pa_nil)))) pss_nil)
        (pss_cons (ps_if (pt_not (pt_val (pe_call G_is_state hr_is_state rfl g_is_state k_is_state b_is_state .nil pass0 (pa_cons (pv 0) (pa_cons (pv 2) pa_nil))))) (pss_one (ps_ret (pe_lst (pa_cons (pe_glob (v := .int (-22)) rfl c_NOT_AS_TOLD ⟨_, rfl⟩) pa_nil)))) pss_nil)
        (pss_cons (ps_set (i := 3) sc_answer_does.nd rfl (Or.inl rfl) (pe_ix ix_list (pe_fld (pv 0) rfl) (pe_ix ix_list (pv 1) pe_int (fun _ _ => rfl)) (fun _ _ => rfl)))
        (pss_cons (ps_if (pt_not (pt_val (pe_call G_has_what_it_needs hr_has_what_it_needs rfl g_has_what_it_needs k_has_what_it_needs b_has_what_it_needs .nil pass0 (pa_cons (pv 3) (pa_cons (pv 2) pa_nil))))) (pss_one (ps_ret (pe_lst (pa_cons (pe_glob (v := .int (-6)) rfl c_NEED_NOT_SO ⟨_, rfl⟩) pa_nil)))) pss_nil)
        (pss_cons (ps_if (pt_not (pt_val (pe_call G_is_let hr_is_let rfl g_is_let k_is_let b_is_let .nil pass0 (pa_cons (pe_fld (pv 0) rfl) (pa_cons (pe_call G_state_after hr_state_after rfl g_state_after k_state_after b_state_after .nil pass0 (pa_cons (pv 3) (pa_cons (pv 2) pa_nil))) pa_nil))))) (pss_one (ps_ret (pe_lst (pa_cons (pe_glob (v := .int (-33)) rfl c_NOT_LET ⟨_, rfl⟩) pa_nil)))) pss_nil)
        (pss_one (ps_ret (pe_lst (pa_cons (pe_call G_state_after hr_state_after rfl g_state_after k_state_after b_state_after .nil pass0 (pa_cons (pv 3) (pa_cons (pv 2) pa_nil))) pa_nil)))))))))), ?_⟩
    refine ⟨_, rfl, t, _, _, _, rfl, rfl, ht, at0, ?_⟩
    refine ⟨_, rfl, _, rfl, t, _, _, _, rfl, rfl, ht, at1, h, L, a, i, rfl, hH, _, rfl, ?_⟩
    by_cases c : i < a.deeds.length
    · rw [decide_eq_true c]
      have hn := hds.len
      have hi : i < ds.length := by omega
      obtain ⟨d, hd, hD⟩ := hds.get (List.getElem?_eq_getElem hi)
      have hdok := hwf.ok d (List.mem_of_getElem? hd)
      have e0 : Kh411.doesA a (.does z i) = (a, if Kh411.isS a z = false then Kh411.say (-22) else if Kh411.can a d z = false then Kh411.say (-6) else if Kh411.let_ a (Kh411.after a d z) = false then Kh411.say (-33) else Kh411.say (Kh411.after a d z)) := by
        show (a, match a.deeds[i]? with | none => _ | some d => _) = _
        rw [hd]
      refine iteF ⟨_, rfl, _, rfl, h, L, a, z, rfl, hH, hwf.m4, _, rfl, ?_⟩
      by_cases cs : z < 2 ^ a.m
      · rw [decide_eq_true cs]
        rw [isS_t cs, if_neg (by decide)] at e0
        have ec : Kh411.can a d z = hasNeed d z := by
          unfold Kh411.can hasNeed
          rw [Ka.meet_and cs]
          by_cases q : z &&& d.need = d.be <;> simp [q]
        rw [ec] at e0
        rw [← aft_after hdok cs] at e0
        rw [show Kh411.let_ a (aft d z) = a.rule.testBit (aft d z) from Ka.has_tb _ _] at e0
        refine iteF ⟨_, rfl, h, CC, dx, _, _, rfl, hh, TH.cl, TH.deeds, hF_deeds _ _ _, _, rfl, t, _, _, _, rfl, rfl, ht, at1, L, _, _, V.ref ds[i], rfl, rfl, SqL.of hL, atI_nat (j := i) (by rw [List.getElem?_map, List.getElem?_eq_getElem hi]; rfl), ?_⟩
        refine ⟨_, rfl, _, rfl, ds[i], d, z, rfl, hD, _, rfl, ?_⟩
        cases cn : hasNeed d z with
        | false =>
          rw [cn, if_pos rfl] at e0
          exact iteT ⟨one_ok, wants_new hQ hH (Same.refl H) e0 rfl⟩
        | true =>
          rw [cn, if_neg (by decide)] at e0
          refine iteF ⟨_, rfl, h, CC, dx, _, _, rfl, hh, TH.cl, TH.rule, hF_rule _ _ _, _, rfl, _, rfl, ds[i], d, z, rfl, hD, a.rule, aft d z, rfl, _, rfl, ?_⟩
          cases cl : a.rule.testBit (aft d z) with
          | false =>
            rw [cl, if_pos rfl] at e0
            exact iteT ⟨one_ok, wants_new hQ hH (Same.refl H) e0 rfl⟩
          | true =>
            rw [cl, if_neg (by decide)] at e0
            exact iteF ⟨_, rfl, _, rfl, ds[i], d, z, rfl, hD, one_ok, wants_new hQ hH (Same.refl H) e0 rfl⟩
      · rw [decide_eq_false cs]
        rw [isS_f cs, if_pos rfl] at e0
        exact iteT ⟨one_ok, wants_new hQ hH (Same.refl H) e0 rfl⟩
    · rw [decide_eq_false c]
      refine iteT ⟨one_ok, wants_new hQ hH (Same.refl H) (ans := Kh411.say (-2)) ?_ rfl⟩
      show (a, match a.deeds[i]? with | none => _ | some d => _) = _
      rw [List.getElem?_eq_none (by omega)]
theorem ok_answer_reach (D : Df K mg "answer_reach" ["held", "told"] s_answer_reach) (T : CT K CD) (TH : HT K CC) (N : Cn mg)
    (O_states_reached : Ok P w K mg base "states_reached" ["rule", "deeds", "s"] 4 (spReach K CD))
    (O_is_state : Ok P w K mg base "is_state" ["held", "s"] 3 (spIsS CC CD)) :
    Ok P w K mg base "answer_reach" ["held", "told"] 5 (spH K CC CD mkReach) := by
  obtain ⟨f_states_reached, fd_states_reached, G_states_reached, g_states_reached, k_states_reached, b_states_reached⟩ := O_states_reached
  obtain ⟨f_is_state, fd_is_state, G_is_state, g_is_state, k_is_state, b_is_state⟩ := O_is_state
  obtain ⟨t_NOT_AS_TOLD, c_NOT_AS_TOLD⟩ := N.NOT_AS_TOLD
  refine Ok.mk D sc_answer_reach (fun vs H Q E h => ?_) (fun f cdv A outer s H vs Q E hr h => ?_)
  · obtain ⟨h, t, L, a, ns, c, rfl, _⟩ := h
    rfl
  · obtain ⟨h, t, L, a, ns, c, rfl, hH, hwf, ht, hmk, hQ⟩ := h
    obtain ⟨z, rfl, rfl⟩ := mk1 hmk
    obtain ⟨⟨dx, hh⟩, ds, hL, hds⟩ := id hH
    have hu := hu_of hr
    have hr_states_reached : Room 4 _ := hr.mono (by decide)
    have hr_is_state : Room 3 _ := hr.mono (by decide)
    refine ⟨_, (pss_cons (ps_if (pt_not (pt_val (pe_call G_is_state hr_is_state rfl g_is_state k_is_state b_is_state .nil pass0 (pa_cons (pv 0) (pa_cons (pe_ix ix_list (pv 1) pe_int (fun _ _ => rfl)) pa_nil))))) (pss_one (ps_ret (pe_lst (pa_cons (pe_glob (v := .int (-22)) rfl c_NOT_AS_TOLD ⟨_, rfl⟩) pa_nil)))) pss_nil)
        (pss_cons (ps_set (i := 2) sc_answer_reach.nd rfl (Or.inl rfl) (pe_call G_states_reached hr_states_reached rfl g_states_reached k_states_reached b_states_reached .nil pass0 (pa_cons (pe_fld (pv 0) rfl) (pa_cons (pe_fld (pv 0) rfl) (pa_cons (pe_ix ix_list (pv 1) pe_int (fun _ _ => rfl)) pa_nil)))))
        (pss_one (ps_ret (pe_op op_cat (pe_lst (pa_cons (pe_callB call_len_seq (by rfl) N.len PySem.boot_len (pa_cons (pv 2) pa_nil)) pa_nil)) (pv 2)))))), ?_⟩
    refine ⟨_, rfl, _, rfl, t, _, _, _, rfl, rfl, ht, at0, h, L, a, z, rfl, hH, hwf.m4, _, rfl, ?_⟩
    have e0 : Kh411.doesA a (.reach z) = (a, if Kh411.isS a z = false then Kh411.say (-22) else Kh411.nats (Kh411.reach a z).length (Kh411.reach a z)) := rfl
    by_cases cs : z < 2 ^ a.m
    · rw [decide_eq_true cs]
      rw [isS_t cs, if_neg (by decide)] at e0
      refine iteF ⟨_, rfl, h, CC, dx, _, _, rfl, hh, TH.cl, TH.rule, hF_rule _ _ _, _, rfl, h, CC, dx, _, _, rfl, hh, TH.cl, TH.deeds, hF_deeds _ _ _, _, rfl, t, _, _, _, rfl, rfl, ht, at0, a, L, ds, z, rfl, SqL.of hL, hds, hwf.m4, hwf.ok, cs, fun H1 p1 s1 hp0 hp1 => ?_⟩
      have hlen : (Kh411.reach a z).length ≤ 16 := Nat.le_trans (Ka.rising_len (Ka.reach_rising a z) fun x hx => Ka.reach_lt cs hx) (pow4 hwf.m4)
      refine ⟨_, rfl, p1, _, rfl, .inl (SqL.of hp1), one_ok, fun p2 hp2 => ?_⟩
      have n12 : p1 ≠ p2 := ne_of_none hp1 hp2
      refine ⟨_, rfl, p2, p1, _, _, rfl, rfl, upd_same, (upd_ne n12).trans hp1, ?_, ?_⟩
      · rw [nV_len]
        show 1 + _ ≤ sizeLine
        exact Nat.le_of_lt (small1000 (by omega))
      · refine wants_new hQ hH (Same.none_upd s1 (s1.free hp2)) e0 ?_
        rw [ansV_nats, nV_len]
        rfl
    · rw [decide_eq_false cs]
      rw [isS_f cs, if_pos rfl] at e0
      exact iteT ⟨one_ok, wants_new hQ hH (Same.refl H) e0 rfl⟩
theorem ok_answer_together (D : Df K mg "answer_together" ["held", "told"] s_answer_together) (T : CT K CD) (TH : HT K CC) (N : Cn mg)
    (O_put_together : Ok P w K mg base "put_together" ["s", "states"] 1 (spTog K))
    (O_is_state : Ok P w K mg base "is_state" ["held", "s"] 3 (spIsS CC CD)) :
    Ok P w K mg base "answer_together" ["held", "told"] 4 (spH K CC CD mkTog) := by
  obtain ⟨f_put_together, fd_put_together, G_put_together, g_put_together, k_put_together, b_put_together⟩ := O_put_together
  obtain ⟨f_is_state, fd_is_state, G_is_state, g_is_state, k_is_state, b_is_state⟩ := O_is_state
  obtain ⟨t_NOT_AS_TOLD, c_NOT_AS_TOLD⟩ := N.NOT_AS_TOLD
  refine Ok.mk D sc_answer_together (fun vs H Q E h => ?_) (fun f cdv A outer s H vs Q E hr h => ?_)
  · obtain ⟨h, t, L, a, ns, c, rfl, _⟩ := h
    rfl
  · obtain ⟨h, t, L, a, ns, c, rfl, hH, hwf, ht, hmk, hQ⟩ := h
    obtain ⟨z, n, r, rfl, hr4, rfl⟩ := mkTog_of hmk
    obtain ⟨⟨dx, hh⟩, ds, hL, hds⟩ := id hH
    have e0 : Kh411.doesA a (.together z r) = (a, if Kh411.isS a z = false ∨ r.any (fun y => Kh411.isS a y == false) then Kh411.say (-22) else Kh411.say (Kh411.together a.m z r)) := rfl
    have hu := hu_of hr
    have hr_put_together : Room 1 _ := hr.mono (by decide)
    have hr_is_state : Room 3 _ := hr.mono (by decide)
    refine ⟨_, (pss_cons (ps_set (i := 2) sc_answer_together.nd rfl (Or.inl rfl) (pe_ix ix_list (pv 1) pe_int (fun _ _ => rfl)))
        (pss_cons (ps_set (i := 3) sc_answer_together.nd rfl (Or.inl rfl) (pe_slice sl_list (pv 1) (po_some pe_int) po_none))
        (pss_cons (ps_for PassesOwn.never rfl (pi_list (pe_op op_cat (pe_lst (pa_cons (pv 2) pa_nil)) (pv 3))) (pg_name (i := 4) sc_answer_together.nd rfl (Or.inl rfl)) (pss_one (ps_if (pt_not (pt_val (pe_call G_is_state hr_is_state rfl g_is_state k_is_state b_is_state .nil pass0 (pa_cons (pv 0) (pa_cons (pv 4) pa_nil))))) (pss_one (ps_ret (pe_lst (pa_cons (pe_glob (v := .int (-22)) rfl c_NOT_AS_TOLD ⟨_, rfl⟩) pa_nil)))) pss_nil)))
        (pss_one (ps_ret (pe_lst (pa_cons (pe_call G_put_together hr_put_together rfl g_put_together k_put_together b_put_together .nil pass0 (pa_cons (pv 2) (pa_cons (pv 3) pa_nil))) pa_nil))))))), ?_⟩
    refine ⟨_, rfl, t, _, _, _, rfl, rfl, ht, at0, ?_⟩
    refine ⟨_, rfl, _, rfl, t, _, rfl, ht, fun p1 hp1 => ?_⟩
    have ec : cutV (nV (z :: n :: r)) (some 2) none = nV r := cut_from (xs := nV (z :: n :: r)) (i := 2) (by rw [nV_len]; show 2 ≤ r.length + 1 + 1; omega)
    rw [ec]
    refine ⟨_, rfl, one_ok, fun p2 hp2 => ?_⟩
    have s1 : Same H (upd H p1 (.lst (nV r))) := Same.new hp1
    have h11 : (upd H p1 (.lst (nV r))) p1 = some (.lst (nV r)) := upd_same
    generalize upd H p1 (.lst (nV r)) = H1 at s1 h11 hp2 ⊢
    have n12 : p1 ≠ p2 := ne_of_none h11 hp2
    refine ⟨_, rfl, p2, p1, _, _, rfl, rfl, upd_same, (upd_ne n12).trans h11, ?_, fun p3 hp3 => ?_⟩
    · rw [nV_len]
      show 1 + _ ≤ sizeLine
      exact Nat.le_of_lt (small1000 (by omega))
    have s2 : Same H (upd H1 p2 (.lst [V.int (z : Int)])) := Same.none_upd s1 (s1.free hp2)
    have s3 : Same H (upd (upd H1 p2 (.lst [V.int (z : Int)])) p3 (.lst ([V.int (z : Int)] ++ nV r))) := Same.none_upd s2 (s2.free hp3)
    have n13 : p1 ≠ p3 := ne_of_none (H := upd H1 p2 (.lst [V.int (z : Int)])) ((upd_ne n12).trans h11) hp3
    have h31 : (upd (upd H1 p2 (.lst [V.int (z : Int)])) p3 (.lst ([V.int (z : Int)] ++ nV r))) p1 = some (.lst (nV r)) := (upd_ne n13).trans ((upd_ne n12).trans h11)
    have h33 : (upd (upd H1 p2 (.lst [V.int (z : Int)])) p3 (.lst ([V.int (z : Int)] ++ nV r))) p3 = some (.lst (nV (z :: r))) := upd_same
    generalize upd (upd H1 p2 (.lst [V.int (z : Int)])) p3 (.lst ([V.int (z : Int)] ++ nV r)) = H3 at s3 h31 h33 ⊢
    have hH3 := hH.same s3
    refine ⟨p3, rfl, ⟨_, SqL.of h33⟩, for_list (K := K) (a := p3) (xs := nV (z :: r)) (fun i σ H' => ∃ v, σ = [some (.ref h), some (.ref t), some (.int (z : Int)), some (.ref p1), v] ∧ H' = H3 ∧ ∀ y ∈ (z :: r).take i, y < 2 ^ a.m)
      ⟨none, rfl, rfl, by simp⟩ (fun i σ H' _ ⟨_, _, e, _⟩ => by rw [e]; exact SqL.of h33) ?_ ?_⟩
    · rintro i y σ H' hi ⟨v, rfl, rfl, hall⟩
      obtain ⟨u, hu', rfl⟩ := nat_at hi
      refine ⟨_, rfl, _, rfl, h, L, a, u, rfl, hH3, hwf.m4, _, rfl, ?_⟩
      by_cases c : u < 2 ^ a.m
      · rw [decide_eq_true c]
        refine iteF ⟨_, rfl, rfl, fun y hy => ?_⟩
        rw [Ka.take_more hu'] at hy
        rcases List.mem_append.mp hy with q | q
        · exact hall y q
        · rw [List.mem_singleton.mp q]
          exact c
      · rw [decide_eq_false c]
        refine iteT ⟨one_ok, wants_new hQ hH s3 (ans := Kh411.say (-22)) ?_ rfl⟩
        rw [e0, if_pos ?_]
        rcases List.mem_cons.mp (List.mem_of_getElem? hu') with q | q
        · subst q
          exact .inl (isS_f c)
        · exact .inr (List.any_eq_true.mpr ⟨u, q, by rw [isS_f c]; rfl⟩)
    · rintro σ H' ⟨v, rfl, rfl, hall⟩
      rw [nV_len, List.take_length] at hall
      have hz := hall z List.mem_cons_self
      have hr := fun y hy => hall y (List.mem_cons_of_mem _ hy)
      refine ⟨_, rfl, _, rfl, z, p1, r, rfl, SqL.of h31, one_ok, wants_new hQ hH s3 (ans := Kh411.say (Kh411.together a.m z r)) ?_ ?_⟩
      · rw [e0, if_neg ?_]
        rintro (q | q)
        · rw [isS_t hz] at q
          cases q
        · obtain ⟨y, hy, q⟩ := List.any_eq_true.mp q
          rw [isS_t (hr y hy)] at q
          cases q
      · rw [Ka.together_eq hz hr]
        rfl
end
end Kp
-- KpLets
namespace Kp
open PySem PySem.Spec PyProof.Rows L2
open Kh411 (Deed Abs Call Ans)
open Ka (lets)
theorem two_ok : 2 ≤ sizeLine := by decide
/-! ### bits of a number, walked -/
theorem bits_nat (x : Nat) : x < 2 ^ Builtin.Int.intBits (x : Int) := natAbs_lt_pow_bits (x : Int)
theorem bits_le {x n : Nat} (h : x < 2 ^ n) : Builtin.Int.intBits (x : Int) ≤ n := intBits_le h
def spCount : Sp := fun vs H Q _ => ∃ (x n : Nat), vs = [.int (x : Int)] ∧ x < 2 ^ n ∧ n ≤ 64 ∧ Q (.int ((lets x n).length : Nat)) H
def spLets : Sp := fun vs H Q _ => ∃ (r n : Nat), vs = [.int (r : Int)] ∧ r < 2 ^ n ∧ n ≤ 64 ∧ ∀ H' p, Same H H' → H p = none → H' p = some (.lst (nV (lets r n))) → Q (.ref p) H'
/-- a list of deeds in the heap -/
def DsAt (K : PySem.W.Frag) (C : Addr) (H : Hp) (l : Addr) (dl : List Deed) : Prop := ∃ ds : List Addr, SqL K H l (ds.map V.ref) ∧ DeedsAt C H ds dl
theorem DsAt.same {K : PySem.W.Frag} {C : Addr} {H H' : Hp} {l : Addr} {dl : List Deed} (s : Same H H') (h : DsAt K C H l dl) : DsAt K C H' l dl := by
  obtain ⟨ds, h1, h2⟩ := h
  exact ⟨ds, s.seq h1, h2.same s⟩
def spAllD (K : PySem.W.Frag) : Sp := fun vs H Q _ => ∃ (l : Addr) (xs : List V), vs = [.ref l] ∧ SqL K H l xs ∧ xs.length ≤ 16 ∧ Q (.int ((2 ^ xs.length - 1 : Nat) : Int)) H
def spOtherD (K : PySem.W.Frag) : Sp := fun vs H Q _ => ∃ (l : Addr) (xs : List V) (x : Nat), vs = [.ref l, .int (x : Int)] ∧ SqL K H l xs ∧ xs.length ≤ 16 ∧ Q (.bl (decide (2 ^ xs.length ≤ x))) H
def spLies (K : PySem.W.Frag) : Sp := fun vs H Q _ => ∃ (x : Nat) (l : Addr) (L : List Nat), vs = [.int (x : Int), .ref l] ∧ SqL K H l (nV L) ∧ Q (.bl (L.any fun z => decide (x &&& z = x))) H
def spDeedsIn (K : PySem.W.Frag) (C : Addr) : Sp := fun vs H Q _ => ∃ (a : Abs) (l : Addr) (x : Nat), vs = [.ref l, .int (x : Int)] ∧ DsAt K C H l a.deeds ∧ a.deeds.length ≤ 6 ∧
  ∀ H' p, Same H H' → H p = none → (∃ ds : List Addr, H' p = some (.lst (ds.map V.ref)) ∧ DeedsAt C H' ds (Kh411.only a x).deeds) → Q (.ref p) H'
/-- the first i deeds that lie in x -/
def onlyAt (dl : List Deed) (x i : Nat) : List Deed := ((dl.zipIdx.take i).filter fun d => Kh411.has x d.2).map fun d => d.1
theorem onlyAt_more {dl : List Deed} {x i : Nat} {d : Deed} (h : dl[i]? = some d) : onlyAt dl x (i + 1) = onlyAt dl x i ++ (if x.testBit i = true then [d] else []) := by
  have hz : dl.zipIdx[i]? = some (d, i) := by
    rw [List.getElem?_zipIdx, h]
    simp
  unfold onlyAt
  rw [Ka.take_more hz, List.filter_append, List.map_append]
  congr 1
  have e : Kh411.has x i = x.testBit i := Ka.has_tb _ _
  cases hx : x.testBit i with
  | false => simp [e, hx]
  | true => simp [e, hx]
theorem onlyAt_all (a : Abs) (x : Nat) : onlyAt a.deeds x a.deeds.length = (Kh411.only a x).deeds := by
  unfold onlyAt Kh411.only
  have : a.deeds.zipIdx.length = a.deeds.length := List.length_zipIdx
  rw [← this, List.take_length]
theorem DeedsAt.upd_lst {C : Addr} {H : Hp} {L : Addr} {xs : List V} {o : HO} (hL : H L = some (.lst xs)) {ps : List Addr} {l : List Deed} (h : DeedsAt C H ps l) : DeedsAt C (upd H L o) ps l := h.other (deeds_lst hL)
section
variable {P : Program} {w : World} {K : PySem.W.Frag} {mg : Str → Option Value} {base : Heap} {CC CD : Addr}
theorem ok_how_many_in (D : Df K mg "how_many_in" ["chosen"] s_how_many_in) (T : CT K CD) (TH : HT K CC) (N : Cn mg)
    (O_is_in : Ok P w K mg base "is_in" ["chosen", "number"] 1 (spLet)) :
    Ok P w K mg base "how_many_in" ["chosen"] 2 (spCount) := by
  obtain ⟨f_is_in, fd_is_in, G_is_in, g_is_in, k_is_in, b_is_in⟩ := O_is_in
  refine Ok.mk D sc_how_many_in (fun vs H Q E h => ?_) (fun f cdv A outer s H vs Q E hr h => ?_)
  · obtain ⟨x, n, rfl, _⟩ := h
    rfl
  · obtain ⟨x, n, rfl, hx, hn, hQ⟩ := h
    have hu := hu_of hr
    have hr_is_in : Room 1 _ := hr.mono (by decide)
    refine ⟨_, (pss_cons (ps_set (i := 1) sc_how_many_in.nd rfl (Or.inl rfl) pe_int)
        (pss_cons (ps_for PassesOwn.never rfl (pi_range1 rfl N.range (pa_cons (pe_bits (pv 0)) pa_nil)) (pg_name (i := 2) sc_how_many_in.nd rfl (Or.inl rfl)) (pss_one (ps_if (pt_val (pe_call G_is_in hr_is_in rfl g_is_in k_is_in b_is_in .nil pass0 (pa_cons (pv 0) (pa_cons (pv 2) pa_nil)))) (pss_one (ps_set (i := 1) sc_how_many_in.nd rfl (Or.inl rfl) (pe_op op_add (pv 1) pe_int))) pss_nil)))
        (pss_one (ps_ret (pv 1))))), ?_⟩
    have hb := bits_nat x
    have hbn := bits_le hx
    rw [← Ka.lets_more hb hbn] at hQ
    refine ⟨_, rfl, (x : Int), rfl, ((Builtin.Int.intBits (x : Int) : Nat) : Int), rfl, by omega, by omega, for_range (lo := 0) (n := Builtin.Int.intBits (x : Int)) (fun i σ H' => ∃ v, σ = [some (.int (x : Int)), some (.int ((lets x i).length : Nat)), v] ∧ H' = H) ⟨none, rfl, rfl⟩ ?_ ?_⟩
    · rintro i σ H' hi ⟨v, rfl, rfl⟩
      rw [Int.zero_add]
      refine ⟨_, rfl, _, rfl, x, i, rfl, _, rfl, ?_⟩
      rw [Ka.lets_succ]
      cases c : x.testBit i with
      | false =>
        refine iteF ⟨some (.int (i : Int)), ?_, rfl⟩
        simp
      | true =>
        refine iteT ⟨_, rfl, _, _, rfl, rfl, ?_⟩
        refine ⟨some (.int (i : Int)), ?_, rfl⟩
        simp
    · rintro σ H' ⟨v, rfl, rfl⟩
      exact ⟨_, rfl, hQ⟩
theorem ok_states_let (D : Df K mg "states_let" ["rule"] s_states_let) (T : CT K CD) (TH : HT K CC) (N : Cn mg)
    (O_is_let : Ok P w K mg base "is_let" ["rule", "s"] 2 (spLet)) :
    Ok P w K mg base "states_let" ["rule"] 3 (spLets) := by
  obtain ⟨f_is_let, fd_is_let, G_is_let, g_is_let, k_is_let, b_is_let⟩ := O_is_let
  refine Ok.mk D sc_states_let (fun vs H Q E h => ?_) (fun f cdv A outer s H vs Q E hr h => ?_)
  · obtain ⟨x, n, rfl, _⟩ := h
    rfl
  · obtain ⟨x, n, rfl, hx, hn, hQ⟩ := h
    have hu := hu_of hr
    have hr_is_let : Room 2 _ := hr.mono (by decide)
    refine ⟨_, (pss_one (ps_ret (pe_lc (own := [("s", 1)]) (g := gName 1) rfl sc_states_let.nd (pi_range1 rfl N.range (pa_cons (pe_bits (pv 0)) pa_nil)) (blkOk_by (N := ["rule", "s"]) (sc := defScope s_states_let) (by decide +kernel)) (fun _ _ _ _ _ => pg_name (i := 1) sc_states_let.nd rfl (Or.inl rfl)) (fun _ _ _ _ _ => pts_one (pt_val (pe_call G_is_let hr_is_let rfl g_is_let k_is_let b_is_let .nil pass0 (pa_cons (pv 0) (pa_cons (pv 1) pa_nil))))) (fun _ _ _ _ _ => (pv 1))))), ?_⟩
    have hb := bits_nat x
    have hbn := bits_le hx
    rw [← Ka.lets_more hb hbn] at hQ
    refine ⟨_, rfl, (x : Int), rfl, ((Builtin.Int.intBits (x : Int) : Nat) : Int), rfl, by omega, by omega, fun D hD => lc_range (lo := 0) (n := Builtin.Int.intBits (x : Int)) (fun i H' => Same H H' ∧ H' D = some (.lst (nV (lets x i)))) ⟨Same.new hD, upd_same⟩ ?_ ?_⟩
    · rintro i H' hi ⟨s1, h1⟩
      rw [Int.zero_add]
      refine ⟨rfl, _, rfl, _, rfl, x, i, rfl, _, rfl, ?_⟩
      rw [Ka.lets_succ]
      have hl := Ka.lets_len x i
      cases c : x.testBit i with
      | false =>
        refine iteF ⟨s1, ?_⟩
        rw [h1]
        simp
      | true =>
        refine iteT ⟨_, rfl, _, h1, ?_, Same.none_upd s1 hD, ?_⟩
        · rw [nV_len]
          exact small1000 (by omega)
        · rw [upd_same, nV_app]
          rfl
    · rintro H' ⟨s1, h1⟩
      exact hQ _ D s1 hD h1
theorem ok_all_deeds (D : Df K mg "all_deeds" ["deeds"] s_all_deeds) (T : CT K CD) (TH : HT K CC) (N : Cn mg) :
    Ok P w K mg base "all_deeds" ["deeds"] 1 (spAllD K) := by
  refine Ok.mk D sc_all_deeds (fun vs H Q E h => ?_) (fun f cdv A outer s H vs Q E hr h => ?_)
  · obtain ⟨l, xs, rfl, _⟩ := h
    rfl
  · obtain ⟨l, xs, rfl, hl, hn, hQ⟩ := h
    have hu := hu_of hr
    refine ⟨_, (pss_one (ps_ret (pe_op op_sub (pe_op op_shl pe_int (pe_callB call_len_seq (by rfl) N.len PySem.boot_len (pa_cons (pv 0) pa_nil))) pe_int))), ?_⟩
    refine ⟨_, rfl, l, xs, rfl, .inl hl, _, _, rfl, rfl, ⟨Int.natCast_nonneg _, by omega, by decide⟩, _, _, rfl, rfl, ?_⟩
    refine qi ?_ hQ
    rw [b_shl]
    have : 1 ≤ 2 ^ xs.length := Nat.one_le_two_pow
    omega
theorem ok_has_other_deeds (D : Df K mg "has_other_deeds" ["deeds", "chosen"] s_has_other_deeds) (T : CT K CD) (TH : HT K CC) (N : Cn mg)
    (O_all_deeds : Ok P w K mg base "all_deeds" ["deeds"] 1 (spAllD K)) :
    Ok P w K mg base "has_other_deeds" ["deeds", "chosen"] 2 (spOtherD K) := by
  obtain ⟨f_all_deeds, fd_all_deeds, G_all_deeds, g_all_deeds, k_all_deeds, b_all_deeds⟩ := O_all_deeds
  refine Ok.mk D sc_has_other_deeds (fun vs H Q E h => ?_) (fun f cdv A outer s H vs Q E hr h => ?_)
  · obtain ⟨l, xs, x, rfl, _⟩ := h
    rfl
  · obtain ⟨l, xs, x, rfl, hl, hn, hQ⟩ := h
    have hu := hu_of hr
    have hr_all_deeds : Room 1 _ := hr.mono (by decide)
    refine ⟨_, (pss_one (ps_ret (pe_cmpR op_gt (pv 1) (pe_call G_all_deeds hr_all_deeds rfl g_all_deeds k_all_deeds b_all_deeds .nil pass0 (pa_cons (pv 0) pa_nil)) (nomark _)))), ?_⟩
    refine ⟨_, rfl, _, rfl, l, xs, rfl, hl, hn, _, _, rfl, rfl, ?_⟩
    refine qb ?_ hQ
    have h1 : 1 ≤ 2 ^ xs.length := Nat.one_le_two_pow
    by_cases z : 2 ^ xs.length ≤ x
    · rw [decide_eq_true z, decide_eq_true (Int.ofNat_lt.mpr (by omega))]
    · rw [decide_eq_false z, decide_eq_false (fun q => z (by have := Int.ofNat_lt.mp q; omega))]
theorem ok_lies_in_one (D : Df K mg "lies_in_one" ["chosen", "others"] s_lies_in_one) (T : CT K CD) (TH : HT K CC) (N : Cn mg) :
    Ok P w K mg base "lies_in_one" ["chosen", "others"] 1 (spLies K) := by
  refine Ok.mk D sc_lies_in_one (fun vs H Q E h => ?_) (fun f cdv A outer s H vs Q E hr h => ?_)
  · obtain ⟨x, l, L, rfl, _⟩ := h
    rfl
  · obtain ⟨x, l, L, rfl, hl, hQ⟩ := h
    have hu := hu_of hr
    refine ⟨_, (pss_cons (ps_for PassesOwn.never rfl (pi_list (pv 1)) (pg_name (i := 2) sc_lies_in_one.nd rfl (Or.inl rfl)) (pss_one (ps_if (pt_cmpR op_eq (pe_op op_and (pv 0) (pv 2)) (pv 0) (nomark _)) (pss_one (ps_ret pe_bl)) pss_nil)))
        (pss_one (ps_ret pe_bl))), ?_⟩
    refine ⟨_, rfl, l, rfl, ⟨_, hl⟩, for_list (K := K) (a := l) (xs := nV L) (fun i σ H' => ∃ v, σ = [some (.int (x : Int)), some (.ref l), v] ∧ H' = H ∧ ((L.take i).any fun z => decide (x &&& z = x)) = false) ⟨none, rfl, rfl, rfl⟩ (fun i σ H' _ ⟨_, _, e, _⟩ => e ▸ hl) ?_ ?_⟩
    · rintro i y σ H' hi ⟨v, rfl, rfl, hno⟩
      obtain ⟨u, hu', rfl⟩ := nat_at hi
      refine ⟨_, rfl, _, rfl, _, _, rfl, rfl, _, rfl, rfl, _, rfl, ?_⟩
      rw [dec_int, b_and, dec_nat]
      by_cases c : x &&& u = x
      · rw [decide_eq_true c]
        refine iteT ?_
        rw [show (L.any fun z => decide (x &&& z = x)) = true from List.any_eq_true.mpr ⟨u, List.mem_of_getElem? hu', decide_eq_true c⟩] at hQ
        exact hQ
      · rw [decide_eq_false c]
        refine iteF ⟨_, rfl, rfl, ?_⟩
        rw [Ka.take_more hu', List.any_append, hno]
        simp [c]
    · rintro σ H' ⟨v, rfl, rfl, hno⟩
      rw [nV_len, List.take_length] at hno
      rw [hno] at hQ
      exact hQ
theorem ok_deeds_in (D : Df K mg "deeds_in" ["deeds", "chosen"] s_deeds_in) (T : CT K CD) (TH : HT K CC) (N : Cn mg)
    (O_is_in : Ok P w K mg base "is_in" ["chosen", "number"] 1 (spLet)) :
    Ok P w K mg base "deeds_in" ["deeds", "chosen"] 2 (spDeedsIn K CD) := by
  obtain ⟨f_is_in, fd_is_in, G_is_in, g_is_in, k_is_in, b_is_in⟩ := O_is_in
  refine Ok.mk D sc_deeds_in (fun vs H Q E h => ?_) (fun f cdv A outer s H vs Q E hr h => ?_)
  · obtain ⟨a, l, x, rfl, _⟩ := h
    rfl
  · obtain ⟨a, l, x, rfl, ⟨ds, hl, hds⟩, hn, hQ⟩ := h
    have hlen := hds.len
    have hu := hu_of hr
    have hr_is_in : Room 1 _ := hr.mono (by decide)
    refine ⟨_, (pss_one (ps_ret (pe_lc (own := [("i", 2)]) (g := gName 2) rfl sc_deeds_in.nd (pi_range1 rfl N.range (pa_cons (pe_callB call_len_seq (by rfl) N.len PySem.boot_len (pa_cons (pv 0) pa_nil)) pa_nil)) (blkOk_by (N := ["deeds", "chosen", "i"]) (sc := defScope s_deeds_in) (by decide +kernel)) (fun _ _ _ _ _ => pg_name (i := 2) sc_deeds_in.nd rfl (Or.inl rfl)) (fun _ _ _ _ _ => pts_one (pt_val (pe_call G_is_in hr_is_in rfl g_is_in k_is_in b_is_in .nil pass0 (pa_cons (pv 1) (pa_cons (pv 2) pa_nil))))) (fun _ _ _ _ _ => (pe_ix (r := rIxL K) ix_list (pv 0) (pv 2) (fun _ _ => rfl)))))), ?_⟩
    refine ⟨_, rfl, l, _, rfl, .inl hl, ((a.deeds.length : Nat) : Int), ?_, by omega, by omega, fun D hD => lc_range (lo := 0) (n := a.deeds.length) (fun i H' => Same H H' ∧ ∃ es : List Addr, H' D = some (.lst (es.map V.ref)) ∧ es.length ≤ i ∧ DeedsAt CD H' es (onlyAt a.deeds x i)) ⟨Same.new hD, [], upd_same, Nat.le_refl _, trivial⟩ ?_ ?_⟩
    · rw [List.length_map, hlen]
    · rintro i H' hi ⟨s1, es, h1, hes, h2⟩
      rw [Int.zero_add]
      have hi2 : i < ds.length := by omega
      obtain ⟨d, hd, hD2⟩ := (hds.same s1).get (List.getElem?_eq_getElem hi2)
      refine ⟨rfl, _, rfl, _, rfl, x, i, rfl, _, rfl, ?_⟩
      rw [onlyAt_more hd]
      cases c : x.testBit i with
      | false =>
        refine iteF ⟨s1, es, h1, by omega, ?_⟩
        simp only [Bool.false_eq_true, if_false, List.append_nil]
        exact h2
      | true =>
        refine iteT ⟨_, rfl, _, rfl, l, _, _, V.ref ds[i], rfl, rfl, s1.seq hl, atI_nat (j := i) (by rw [List.getElem?_map, List.getElem?_eq_getElem hi2]; rfl), _, h1, ?_, Same.none_upd s1 hD, es ++ [ds[i]], ?_, ?_, ?_⟩
        · rw [List.length_map]
          exact small1000 (by omega)
        · rw [upd_same, List.map_append]
          rfl
        · rw [List.length_append]
          show es.length + 1 ≤ i + 1
          omega
        · rw [if_pos rfl]
          exact (h2.app hD2).upd_lst h1
    · rintro H' ⟨s1, es, h1, hes, h2⟩
      rw [onlyAt_all] at h2
      exact hQ _ D s1 hD ⟨es, h1, h2⟩
end
end Kp
-- KpTogs
namespace Kp
open PySem PySem.Spec PyProof.Rows L2
open Kh411 (Deed Abs Call Ans)
open Ka (lets)
theorem fK_old {F : List Nat} {u : Nat} (h : u ∈ F) : putK (fK F) (Sum.inl (u : Int)) (V.bl true) = fK F := by
  unfold putK
  have : ((fK F).any fun kv => decide (kv.1 = Sum.inl (u : Int))) = true := by
    rw [valV_any, fK_val]
    simp [h]
  rw [this, if_pos rfl]
  have e : (fK F).map id = fK F := List.map_id _
  refine (List.map_congr_left fun kv hk => ?_).trans e
  obtain ⟨t, _, rfl⟩ := List.mem_map.mp hk
  dsimp only
  split <;> rfl
theorem fK_ints (F : List Nat) : ((fK F).map fun kv => kV kv.1) = nV F := by
  unfold fK nV
  rw [List.map_map]
  rfl
def spTogs (K : PySem.W.Frag) : Sp := fun vs H Q _ => ∃ (s : Nat) (l : Addr) (R : List Nat) (n : Nat), vs = [.int (s : Int), .ref l] ∧ SqL K H l (nV R) ∧ s < 2 ^ n ∧ n ≤ 4 ∧ (∀ y ∈ R, y < 2 ^ n) ∧
  ∀ (H' : Hp) (p : Addr) (L : List Nat), Same H H' → H p = none → H' p = some (.lst (nV L)) → (∀ t, t ∈ L ↔ ∃ r, (∀ y ∈ r, y ∈ R) ∧ t = s ^^^ Ka.chg s r) → Q (.ref p) H'
def spFree (K : PySem.W.Frag) (CD : Addr) : Sp := fun vs H Q _ => ∃ (a : Abs) (l : Addr), vs = [.int (a.rule : Int), .ref l] ∧ DsAt K CD H l a.deeds ∧ Wf a ∧ ∀ H', Same H H' → Q (.bl (Kh411.keeps a a.m)) H'
theorem mem_lets_let {a : Abs} {z : Nat} : z ∈ lets a.rule (2 ^ a.m) ↔ z < 2 ^ a.m ∧ Kh411.let_ a z = true := by
  rw [Ka.mem_lets, show Kh411.let_ a z = a.rule.testBit z from Ka.has_tb _ _]
theorem lets_at {a : Abs} {i z : Nat} (h : (lets a.rule (2 ^ a.m))[i]? = some z) : z < 2 ^ a.m ∧ Kh411.let_ a z = true := mem_lets_let.mp (List.mem_of_getElem? h)
theorem Wf.n64 {a : Abs} (h : Wf a) : 2 ^ a.m ≤ 64 := by
  have := pow4 h.m4
  omega
section
variable {P : Program} {w : World} {K : PySem.W.Frag} {mg : Str → Option Value} {base : Heap} {CC CD : Addr}
theorem ok_states_together (D : Df K mg "states_together" ["s", "reached"] s_states_together) (T : CT K CD) (TH : HT K CC) (N : Cn mg)
    (O_put_together : Ok P w K mg base "put_together" ["s", "states"] 1 (spTog K)) :
    Ok P w K mg base "states_together" ["s", "reached"] 2 (spTogs K) := by
  obtain ⟨f_put_together, fd_put_together, G_put_together, g_put_together, k_put_together, b_put_together⟩ := O_put_together
  refine Ok.mk D sc_states_together (fun vs H Q E h => ?_) (fun f cdv A outer s H vs Q E hr h => ?_)
  · obtain ⟨s, l, R, n, rfl, _⟩ := h
    rfl
  · obtain ⟨z, l, R, n, rfl, hl, hz, hn4, hR, hQ⟩ := h
    have h16 := pow4 hn4
    have hu := hu_of hr
    have hr_put_together : Room 1 _ := hr.mono (by decide)
    refine ⟨_, (pss_cons (ps_set (i := 2) sc_states_together.nd rfl (Or.inl rfl) (pe_disp (pps_cons (pv 0) pe_bl pps_nil) (by rfl) (by rfl) (fun z => by cases z) (by decide)))
        (pss_cons (ps_for PassesOwn.never rfl (pi_list (pv 1)) (pg_name (i := 3) sc_states_together.nd rfl (Or.inl rfl)) (pss_one (ps_if (pt_cmp (pc_dnotin hu (pv 3) (pv 2))) (pss_one (ps_for PassesOwn.never rfl (pi_list (pe_callTy (call_listD rfl) (by rfl) N.list (by decide +kernel) (pa_cons (pv 2) pa_nil))) (pg_name (i := 4) sc_states_together.nd rfl (Or.inl rfl)) (pss_one (ps_dput hu (pv 2) (pe_call G_put_together hr_put_together rfl g_put_together k_put_together b_put_together .nil pass0 (pa_cons (pv 0) (pa_cons (pe_lst (pa_cons (pv 4) (pa_cons (pv 3) pa_nil))) pa_nil))) pe_bl rfl)))) pss_nil)))
        (pss_one (ps_ret (pe_callB (call_sortedDI rfl) (by rfl) N.sorted (by decide +kernel) (pa_cons (pv 2) pa_nil)))))), ?_⟩
    intro p hp
    refine ⟨_, rfl, upd_same, [(Sum.inl (z : Int), .bl true)], rfl, (by show 1 ≤ 15; decide), ?_⟩
    have s1 : Same H (upd (upd H p (.dK [])) p (.dK (fK [z]))) := Same.none_upd (Same.new hp) hp
    have hp1 : (upd (upd H p (.dK [])) p (.dK (fK [z]))) p = some (.dK (fK [z])) := upd_same
    have em : mergeK [] [((Sum.inl (z : Int) : Key), V.bl true)] = fK [z] := rfl
    rw [em]
    generalize upd (upd H p (.dK [])) p (.dK (fK [z])) = H1 at s1 hp1 ⊢
    refine ⟨_, rfl, l, rfl, ⟨_, s1.seq hl⟩, for_list (K := K) (a := l) (xs := nV R) (fun i σ H' => ∃ (F : List Nat) (v3 v4 : Option V), σ = [some (.int (z : Int)), some (.ref l), some (.ref p), v3, v4] ∧ Same H H' ∧ H' p = some (.dK (fK F)) ∧ Ka.TInv z (R.take i) F)
      ⟨[z], none, none, rfl, s1, hp1, Ka.TInv.start z⟩ (fun i σ H' _ ⟨_, _, _, _, s, _⟩ => s.seq hl) ?_ ?_⟩
    · rintro i y σ H2 hi ⟨F, v3, v4, rfl, s2, hp2, I⟩
      obtain ⟨u, hu', rfl⟩ := nat_at hi
      have hu2 : u < 2 ^ n := hR u (List.mem_of_getElem? hu')
      have hRi : ∀ y ∈ R.take i, y < 2 ^ n := fun y hy => hR y (List.mem_of_mem_take hy)
      have lF := I.len hz hRi
      refine ⟨_, rfl, _, rfl, p, _, rfl, DGet.k (k := Sum.inl ((u : Nat) : Int)) hp2, _, rfl, ?_⟩
      rw [fK_val, Ka.take_more hu']
      by_cases c : u ∈ F
      · rw [decide_eq_true c]
        exact iteF ⟨F, _, _, rfl, s2, hp2, I.skip c⟩
      · rw [decide_eq_false c]
        refine iteT ⟨_, rfl, p, fK F, rfl, Rd.of hp2, fun q hq => ?_⟩
        rw [fK_ints]
        have npq : p ≠ q := ne_of_none hp2 hq
        have hq0 : H q = none := s2.free hq
        have s3 : Same H (upd H2 q (.lst (nV F))) := Same.none_upd s2 hq0
        have hp3 : (upd H2 q (.lst (nV F))) p = some (.dK (fK F)) := (upd_ne npq).trans hp2
        have hq3 : (upd H2 q (.lst (nV F))) q = some (.lst (nV F)) := upd_same
        generalize upd H2 q (.lst (nV F)) = H3 at s3 hp3 hq3 ⊢
        refine ⟨q, rfl, ⟨_, SqL.of hq3⟩, for_list (K := K) (a := q) (xs := nV F) (fun j σ H' => ∃ (G : List Nat) (v4 : Option V), σ = [some (.int (z : Int)), some (.ref l), some (.ref p), some (.int (u : Int)), v4] ∧ Same H H' ∧ H' p = some (.dK (fK G)) ∧ H' q = some (.lst (nV F)) ∧ Ka.TIn z u F j G)
          ⟨F, _, rfl, s3, hp3, hq3, Ka.TIn.start I⟩ (fun j σ H' _ ⟨_, _, _, _, _, h, _⟩ => SqL.of h) ?_ ?_⟩
        · rintro j y σ H4 hj ⟨G, v4, rfl, s4, hp4, hq4, J⟩
          obtain ⟨t, ht, rfl⟩ := nat_at hj
          have lG := Ka.TIn.len I J hz hRi hu2
          refine ⟨_, rfl, _, rfl, _, rfl, _, rfl, two_ok, fun r hr2 => ?_⟩
          have hr0 : H r = none := s4.free hr2
          have npr : p ≠ r := ne_of_none hp4 hr2
          have nqr : q ≠ r := ne_of_none hq4 hr2
          have s5 : Same H (upd H4 r (.lst (nV [t, u]))) := Same.none_upd s4 hr0
          have hp5 : (upd H4 r (.lst (nV [t, u]))) p = some (.dK (fK G)) := (upd_ne npr).trans hp4
          have hq5 : (upd H4 r (.lst (nV [t, u]))) q = some (.lst (nV F)) := (upd_ne nqr).trans hq4
          have hr5 : (upd H4 r (.lst (nV [t, u]))) r = some (.lst (nV [t, u])) := upd_same
          refine ⟨z, r, [t, u], rfl, SqL.of hr5, p, _, rfl, DPut.k (k := Sum.inl (((z ^^^ Ka.chg z [t, u] : Nat)) : Int)) hp5 (small1000 (by rw [fK_len]; omega)), ?_⟩
          have nqp : q ≠ p := npq.symm
          by_cases c2 : Ka.tg z t u ∈ G
          · refine ⟨G, _, rfl, Same.none_upd s5 hp, ?_, (upd_ne nqp).trans hq5, J.old ht c2⟩
            rw [upd_same, Ka.tg_chg, fK_old c2]
          · refine ⟨G ++ [Ka.tg z t u], _, rfl, Same.none_upd s5 hp, ?_, (upd_ne nqp).trans hq5, J.new ht c2⟩
            rw [upd_same, Ka.tg_chg, fK_put c2]
        · rintro σ H4 ⟨G, v4, rfl, s4, hp4, hq4, J⟩
          rw [nV_len] at J
          exact ⟨G, _, _, rfl, s4, hp4, I.next J⟩
    · rintro σ H2 ⟨F, v3, v4, rfl, s2, hp2, I⟩
      rw [nV_len, List.take_length] at I
      have lF := I.len hz hR
      refine ⟨_, rfl, p, fK F, F.map fun t : Nat => (t : Int), rfl, Rd.of hp2, fK_keys F, ?_, fun ys r hperm hsort hr0 => ?_⟩
      · rw [List.length_map]
        omega
      · obtain ⟨ns, rfl, hp4, hs4⟩ := ints_back hperm hsort
        refine hQ _ r ns (Same.none_upd s2 (s2.free hr0)) (s2.free hr0) ?_ fun t => ?_
        · rw [upd_same, List.map_map]
          rfl
        · rw [hp4.mem_iff]
          exact I.end t
theorem ok_are_free (D : Df K mg "are_free" ["rule", "deeds"] s_are_free) (T : CT K CD) (TH : HT K CC) (N : Cn mg)
    (O_states_let : Ok P w K mg base "states_let" ["rule"] 3 (spLets))
    (O_states_together : Ok P w K mg base "states_together" ["s", "reached"] 2 (spTogs K))
    (O_states_reached : Ok P w K mg base "states_reached" ["rule", "deeds", "s"] 4 (spReach K CD))
    (O_is_let : Ok P w K mg base "is_let" ["rule", "s"] 2 (spLet)) :
    Ok P w K mg base "are_free" ["rule", "deeds"] 5 (spFree K CD) := by
  obtain ⟨f_states_let, fd_states_let, G_states_let, g_states_let, k_states_let, b_states_let⟩ := O_states_let
  obtain ⟨f_states_together, fd_states_together, G_states_together, g_states_together, k_states_together, b_states_together⟩ := O_states_together
  obtain ⟨f_states_reached, fd_states_reached, G_states_reached, g_states_reached, k_states_reached, b_states_reached⟩ := O_states_reached
  obtain ⟨f_is_let, fd_is_let, G_is_let, g_is_let, k_is_let, b_is_let⟩ := O_is_let
  refine Ok.mk D sc_are_free (fun vs H Q E h => ?_) (fun f cdv A outer s H vs Q E hr h => ?_)
  · obtain ⟨a, l, rfl, _⟩ := h
    rfl
  · obtain ⟨a, l, rfl, ⟨ds, hl, hds⟩, hwf, hQ⟩ := h
    have hu := hu_of hr
    have hr_states_let : Room 3 _ := hr.mono (by decide)
    have hr_states_together : Room 2 _ := hr.mono (by decide)
    have hr_states_reached : Room 4 _ := hr.mono (by decide)
    have hr_is_let : Room 2 _ := hr.mono (by decide)
    refine ⟨_, (pss_cons (ps_for PassesOwn.never rfl (pi_list (pe_call G_states_let hr_states_let rfl g_states_let k_states_let b_states_let .nil pass0 (pa_cons (pv 0) pa_nil))) (pg_name (i := 2) sc_are_free.nd rfl (Or.inl rfl)) (pss_one (ps_for PassesOwn.never rfl (pi_list (pe_call G_states_together hr_states_together rfl g_states_together k_states_together b_states_together .nil pass0 (pa_cons (pv 2) (pa_cons (pe_call G_states_reached hr_states_reached rfl g_states_reached k_states_reached b_states_reached .nil pass0 (pa_cons (pv 0) (pa_cons (pv 1) (pa_cons (pv 2) pa_nil)))) pa_nil)))) (pg_name (i := 3) sc_are_free.nd rfl (Or.inl rfl)) (pss_one (ps_if (pt_not (pt_val (pe_call G_is_let hr_is_let rfl g_is_let k_is_let b_is_let .nil pass0 (pa_cons (pv 0) (pa_cons (pv 3) pa_nil))))) (pss_one (ps_ret pe_bl)) pss_nil)))))
        (pss_one (ps_ret pe_bl))), ?_⟩
    refine ⟨_, rfl, a.rule, 2 ^ a.m, rfl, hwf.r, hwf.n64, fun H1 p1 s1 hp0 hp1 => ?_⟩
    refine ⟨p1, rfl, ⟨_, SqL.of hp1⟩, for_list (K := K) (a := p1) (xs := nV (lets a.rule (2 ^ a.m))) (fun i σ H' => ∃ (v2 v3 : Option V), σ = [some (.int (a.rule : Int)), some (.ref l), v2, v3] ∧ Same H1 H' ∧ ∀ z ∈ (lets a.rule (2 ^ a.m)).take i, ∀ r, (∀ y ∈ r, y ∈ Kh411.reach a z) → Kh411.let_ a (z ^^^ Ka.chg z r) = true)
      ⟨none, none, rfl, Same.refl H1, by simp⟩ (fun i σ H' _ ⟨_, _, _, s, _⟩ => SqL.of (s _ _ hp1)) ?_ ?_⟩
    · rintro i y σ H2 hi ⟨v2, v3, rfl, s2, hall⟩
      obtain ⟨z, hz', rfl⟩ := nat_at hi
      obtain ⟨hz, hlz⟩ := lets_at hz'
      have s12 := s1.trans s2
      refine ⟨_, rfl, _, rfl, _, rfl, _, rfl, a, l, ds, z, rfl, s12.seq hl, hds.same s12, hwf.m4, hwf.ok, hz, fun H3 p3 s3 hp30 hp3 => ?_⟩
      refine ⟨z, p3, Kh411.reach a z, a.m, rfl, SqL.of hp3, hz, hwf.m4, fun y hy => Ka.reach_lt hz hy, fun H4 p4 L s4 hp40 hp4 hL => ?_⟩
      have s24 := s2.trans (s3.trans s4)
      refine ⟨p4, rfl, ⟨_, SqL.of hp4⟩, for_list (K := K) (a := p4) (xs := nV L) (fun j σ H' => ∃ (v3 : Option V), σ = [some (.int (a.rule : Int)), some (.ref l), some (.int (z : Int)), v3] ∧ H' = H4 ∧ ∀ t ∈ L.take j, Kh411.let_ a t = true)
        ⟨_, rfl, rfl, by simp⟩ (fun j σ H' _ ⟨_, _, e, _⟩ => by rw [e]; exact SqL.of hp4) ?_ ?_⟩
      · rintro j y σ H5 hj ⟨v3, rfl, rfl, hlets⟩
        obtain ⟨u, hu', rfl⟩ := nat_at hj
        refine ⟨_, rfl, _, rfl, a.rule, u, rfl, _, rfl, ?_⟩
        have el : Kh411.let_ a u = a.rule.testBit u := Ka.has_tb _ _
        cases c : a.rule.testBit u with
        | true =>
          refine iteF ⟨_, rfl, rfl, fun t ht => ?_⟩
          rw [Ka.take_more hu'] at ht
          rcases List.mem_append.mp ht with q | q
          · exact hlets t q
          · rw [List.mem_singleton.mp q, el, c]
        | false =>
          refine iteT ?_
          have : Kh411.keeps a a.m = false := by
            cases e : Kh411.keeps a a.m with
            | false => rfl
            | true =>
              obtain ⟨r, hr2, e2⟩ := (hL u).mp (List.mem_of_getElem? hu')
              have := Ka.keeps_whole.mp e z hz hlz r hr2
              rw [← e2, el, c] at this
              cases this
          rw [this] at hQ
          exact hQ _ (s1.trans s24)
      · rintro σ H5 ⟨v3, rfl, rfl, hlets⟩
        rw [nV_len, List.take_length] at hlets
        refine ⟨_, _, rfl, s24, fun t ht => ?_⟩
        rw [Ka.take_more hz'] at ht
        rcases List.mem_append.mp ht with q | q
        · exact hall t q
        · rw [List.mem_singleton.mp q]
          exact fun r hr2 => hlets _ ((hL _).mpr ⟨r, hr2, rfl⟩)
    · rintro σ H2 ⟨v2, v3, rfl, s2, hall⟩
      rw [nV_len, List.take_length] at hall
      have : Kh411.keeps a a.m = true := Ka.keeps_whole.mpr fun z hz hlz r hr2 => hall z (mem_lets_let.mpr ⟨hz, hlz⟩) r hr2
      rw [this] at hQ
      exact hQ _ (s1.trans s2)
end
end Kp
-- KpMost
namespace Kp
open PySem PySem.Spec PyProof.Rows L2
open Kh411 (Deed Abs Call Ans)
open Ka (lets cm)
def spMost (K : PySem.W.Frag) (CD : Addr) : Sp := fun vs H Q _ => ∃ (a : Abs) (l : Addr), vs = [.int (a.rule : Int), .ref l] ∧ DsAt K CD H l a.deeds ∧ Wf a ∧ ∀ H' p, Same H H' → H p = none → H' p = some (.lst (nV (Kh411.mostFree a))) → Q (.ref p) H'
def spAsked (K : PySem.W.Frag) (CD : Addr) : Sp := fun vs H Q _ => ∃ (a : Abs) (l : Addr), vs = [.int (a.rule : Int), .ref l] ∧ DsAt K CD H l a.deeds ∧ Wf a ∧ ∀ H' p, Same H H' → H p = none → H' p = some (.lst (nV (Kh411.askedOf a))) → Q (.ref p) H'
theorem tyes {σ : L2.St} {H : Hp} {Q : Bool → Hp → Prop} (h : Q true H) : tYes σ H Q := h
theorem nV_ints (F : List Nat) : nV F = (F.map fun t : Nat => (t : Int)).map V.int := by
  unfold nV
  rw [List.map_map]
  rfl
theorem wf_only {a : Abs} (h : Wf a) (x : Nat) : Wf (Kh411.only a x) := by
  refine ⟨h.m1, h.m4, h.r, ?_, fun d hd => ?_⟩
  · unfold Kh411.only
    dsimp only
    rw [List.length_map]
    refine Nat.le_trans (List.length_filter_le _ _) ?_
    rw [List.length_zipIdx]
    exact h.len
  · obtain ⟨i, hi, _⟩ := Ka.mem_only.mp hd
    exact h.ok d (List.mem_of_getElem? hi)
theorem Wf.d64 {a : Abs} (h : Wf a) : 2 ^ a.deeds.length ≤ 64 := Nat.le_trans (Nat.pow_le_pow_right (by decide) h.len) (by decide)
section
variable {P : Program} {w : World} {K : PySem.W.Frag} {mg : Str → Option Value} {base : Heap} {CC CD : Addr}
theorem ok_most_free_sets (D : Df K mg "most_free_sets" ["rule", "deeds"] s_most_free_sets) (T : CT K CD) (TH : HT K CC) (N : Cn mg)
    (O_all_deeds : Ok P w K mg base "all_deeds" ["deeds"] 1 (spAllD K))
    (O_are_free : Ok P w K mg base "are_free" ["rule", "deeds"] 5 (spFree K CD))
    (O_lies_in_one : Ok P w K mg base "lies_in_one" ["chosen", "others"] 1 (spLies K))
    (O_deeds_in : Ok P w K mg base "deeds_in" ["deeds", "chosen"] 2 (spDeedsIn K CD)) :
    Ok P w K mg base "most_free_sets" ["rule", "deeds"] 6 (spMost K CD) := by
  obtain ⟨f_all_deeds, fd_all_deeds, G_all_deeds, g_all_deeds, k_all_deeds, b_all_deeds⟩ := O_all_deeds
  obtain ⟨f_are_free, fd_are_free, G_are_free, g_are_free, k_are_free, b_are_free⟩ := O_are_free
  obtain ⟨f_lies_in_one, fd_lies_in_one, G_lies_in_one, g_lies_in_one, k_lies_in_one, b_lies_in_one⟩ := O_lies_in_one
  obtain ⟨f_deeds_in, fd_deeds_in, G_deeds_in, g_deeds_in, k_deeds_in, b_deeds_in⟩ := O_deeds_in
  refine Ok.mk D sc_most_free_sets (fun vs H Q E h => ?_) (fun f cdv A outer s H vs Q E hr h => ?_)
  · obtain ⟨a, l, rfl, _⟩ := h
    rfl
  · obtain ⟨a, l, rfl, hds, hwf, hQ⟩ := h
    obtain ⟨ds, hl, hdd⟩ := id hds
    have hlen : (ds.map V.ref).length = a.deeds.length := by rw [List.length_map, hdd.len]
    have l6 := hwf.len
    have n64 := hwf.d64
    have n1 : 1 ≤ 2 ^ a.deeds.length := Nat.one_le_two_pow
    have hu := hu_of hr
    have hr_all_deeds : Room 1 _ := hr.mono (by decide)
    have hr_are_free : Room 5 _ := hr.mono (by decide)
    have hr_lies_in_one : Room 1 _ := hr.mono (by decide)
    have hr_deeds_in : Room 2 _ := hr.mono (by decide)
    refine ⟨_, (pss_cons (ps_set (i := 2) sc_most_free_sets.nd rfl (Or.inl rfl) (pe_lst pa_nil))
        (pss_cons (ps_for PassesOwn.never rfl (pi_range3 rfl N.range (pa_cons (pe_call G_all_deeds hr_all_deeds rfl g_all_deeds k_all_deeds b_all_deeds .nil pass0 (pa_cons (pv 1) pa_nil)) (pa_cons (pe_un un_neg pe_int) (pa_cons (pe_un un_neg pe_int) pa_nil)))) (pg_name (i := 3) sc_most_free_sets.nd rfl (Or.inl rfl)) (pss_one (ps_if (PW.pt (pw_and (pt_not (pt_val (pe_call G_lies_in_one hr_lies_in_one rfl g_lies_in_one k_lies_in_one b_lies_in_one .nil pass0 (pa_cons (pv 3) (pa_cons (pv 2) pa_nil))))) (pw_and1 (pt_val (pe_call G_are_free hr_are_free rfl g_are_free k_are_free b_are_free .nil pass0 (pa_cons (pv 0) (pa_cons (pe_call G_deeds_in hr_deeds_in rfl g_deeds_in k_deeds_in b_deeds_in .nil pass0 (pa_cons (pv 1) (pa_cons (pv 3) pa_nil))) pa_nil))))))) (pss_one (ps_expr (pe_bm PySem.F.plainAttrs_list PySem.F.slot_list_append PySem.F.type_list_append mt_append (pv 2) (pa_cons (pv 3) pa_nil)))) pss_nil)))
        (pss_one (ps_ret (pe_callB cr_sortedI (by rfl) N.sorted (by decide +kernel) (pa_cons (pv 2) pa_nil)))))), ?_⟩
    refine ⟨Nat.zero_le _, fun q hq => ?_⟩
    have s1 : Same H (upd H q (.lst [])) := Same.new hq
    have hq1 : (upd H q (.lst [])) q = some (.lst (nV [])) := upd_same
    generalize upd H q (.lst []) = H1 at s1 hq1 ⊢
    refine ⟨_, rfl, l, _, rfl, s1.seq hl, by omega, _, rfl, _, rfl, _, _, _, 2 ^ a.deeds.length, rfl, ?_, ?_⟩
    · rw [hlen]
      have := RgC.neg (i := ((2 ^ a.deeds.length - 1 : Nat) : Int)) (j := -1) (by omega) (by omega) (by decide) (by decide)
      rw [show (((2 ^ a.deeds.length - 1 : Nat) : Int) - -1).toNat = 2 ^ a.deeds.length by omega] at this
      exact this
    rw [hlen]
    refine for_rangeC (lo := ((2 ^ a.deeds.length - 1 : Nat) : Int)) (c := -1) (n := 2 ^ a.deeds.length) (fun i σ H' => ∃ (F : List Nat) (v3 : Option V), σ = [some (.int (a.rule : Int)), some (.ref l), some (.ref q), v3] ∧ Same H H' ∧ H' q = some (.lst (nV F)) ∧ Ka.MInv a (2 ^ a.deeds.length - i) F)
      ⟨[], none, rfl, s1, hq1, by rw [Nat.sub_zero]; exact Ka.MInv.start a⟩ ?_ ?_
    · rintro i σ H2 hi ⟨F, v3, rfl, s2, hq2, I⟩
      obtain ⟨x, hx⟩ : ∃ x, x = 2 ^ a.deeds.length - 1 - i := ⟨_, rfl⟩
      rw [show ((2 ^ a.deeds.length - 1 : Nat) : Int) + ((i : Nat) : Int) * (-1) = (x : Int) by omega]
      rw [show 2 ^ a.deeds.length - i = x + 1 by omega] at I
      rw [show 2 ^ a.deeds.length - (i + 1) = x by omega]
      have hxl : x < 2 ^ a.deeds.length := by omega
      refine ⟨_, rfl, _, rfl, x, q, F, rfl, SqL.of hq2, _, rfl, ?_⟩
      cases c : F.any fun z => decide (x &&& z = x) with
      | true =>
        obtain ⟨z, hz, e⟩ := List.any_eq_true.mp c
        exact iteF (iteF ⟨F, _, rfl, s2, hq2, I.skip (.inl ⟨z, hz, of_decide_eq_true e⟩)⟩)
      | false =>
        have hn : ¬ ∃ z ∈ F, x &&& z = x := by
          rintro ⟨z, hz, e⟩
          rw [List.any_eq_true.mpr ⟨z, hz, decide_eq_true e⟩] at c
          cases c
        refine iteT ⟨_, rfl, _, rfl, _, rfl, a, l, x, rfl, hds.same s2, l6, fun H3 p3 s3 hp30 ⟨es, hp3, hes⟩ => ?_⟩
        refine ⟨Kh411.only a x, p3, rfl, ⟨es, SqL.of hp3, hes⟩, wf_only hwf x, fun H4 s4 => ⟨_, rfl, ?_⟩⟩
        have ef : Kh411.keeps (Kh411.only a x) (Kh411.only a x).m = Kh411.free a x := (Ka.free_keeps hwf.m1 x).symm
        rw [ef]
        have s24 := s2.trans (s3.trans s4)
        have hq4 : H4 q = some (.lst (nV F)) := s4 _ _ (s3 _ _ hq2)
        cases cf : Kh411.free a x with
        | false => exact iteF ⟨F, _, rfl, s24, hq4, I.skip (.inr cf)⟩
        | true =>
          have lF := I.len
          refine iteT ⟨_, rfl, .inl ⟨rfl, _, SqL.of hq4⟩, _, rfl, q, _, _, rfl, rfl, hq4, small1000 (by rw [nV_len]; omega), ?_⟩
          refine ⟨F ++ [x], _, rfl, Same.none_upd s24 hq, ?_, I.add hxl hn cf⟩
          rw [upd_same, nV_app]
          rfl
    · rintro σ H2 ⟨F, v3, rfl, s2, hq2, I⟩
      rw [Nat.sub_self] at I
      refine ⟨_, rfl, q, F.map fun t : Nat => (t : Int), rfl, ?_, fun ys r hperm hsort hr0 => ?_⟩
      · rw [← nV_ints]
        exact SqL.of hq2
      · obtain ⟨ns, rfl, hp4, hs4⟩ := ints_back hperm hsort
        refine hQ _ r (Same.none_upd s2 (s2.free hr0)) (s2.free hr0) ?_
        rw [upd_same, ← nV_ints, I.finish hp4 hs4]
theorem ok_fewest_asked_sets (D : Df K mg "fewest_asked_sets" ["rule", "deeds"] s_fewest_asked_sets) (T : CT K CD) (TH : HT K CC) (N : Cn mg)
    (O_all_deeds : Ok P w K mg base "all_deeds" ["deeds"] 1 (spAllD K))
    (O_most_free_sets : Ok P w K mg base "most_free_sets" ["rule", "deeds"] 6 (spMost K CD))
    (O_how_many_in : Ok P w K mg base "how_many_in" ["chosen"] 2 (spCount)) :
    Ok P w K mg base "fewest_asked_sets" ["rule", "deeds"] 7 (spAsked K CD) := by
  obtain ⟨f_all_deeds, fd_all_deeds, G_all_deeds, g_all_deeds, k_all_deeds, b_all_deeds⟩ := O_all_deeds
  obtain ⟨f_most_free_sets, fd_most_free_sets, G_most_free_sets, g_most_free_sets, k_most_free_sets, b_most_free_sets⟩ := O_most_free_sets
  obtain ⟨f_how_many_in, fd_how_many_in, G_how_many_in, g_how_many_in, k_how_many_in, b_how_many_in⟩ := O_how_many_in
  refine Ok.mk D sc_fewest_asked_sets (fun vs H Q E h => ?_) (fun f cdv A outer s H vs Q E hr h => ?_)
  · obtain ⟨a, l, rfl, _⟩ := h
    rfl
  · obtain ⟨a, l, rfl, hds, hwf, hQ⟩ := h
    obtain ⟨ds, hl, hdd⟩ := id hds
    have hlen : (ds.map V.ref).length = a.deeds.length := by rw [List.length_map, hdd.len]
    have l6 := hwf.len
    have n64 := hwf.d64
    have hu := hu_of hr
    have hr_all_deeds : Room 1 _ := hr.mono (by decide)
    have hr_most_free_sets : Room 6 _ := hr.mono (by decide)
    have hr_how_many_in : Room 2 _ := hr.mono (by decide)
    refine ⟨_, (pss_cons (ps_setLc (i := 2) (own := [("chosen", 4)]) (g := gName 4) rfl sc_fewest_asked_sets.nd rfl rfl (sw_true rfl rfl rfl (by decide +kernel)) (pi_list (pe_call G_most_free_sets hr_most_free_sets rfl g_most_free_sets k_most_free_sets b_most_free_sets .nil pass0 (pa_cons (pv 0) (pa_cons (pv 1) pa_nil)))) (blkOk_by (N := ["rule", "deeds", "asked", "fewest", "chosen"]) (sc := defScope s_fewest_asked_sets) (by decide +kernel)) (fun _ _ _ _ _ => pg_name (i := 4) sc_fewest_asked_sets.nd rfl (Or.inl rfl)) (fun _ _ _ _ _ => pts_nil) (fun _ _ _ _ _ => (pe_op op_xor (pe_call G_all_deeds hr_all_deeds rfl g_all_deeds k_all_deeds b_all_deeds .nil pass0 (pa_cons (pv 1) pa_nil)) (pv 4))))
        (pss_cons (ps_set (i := 3) sc_fewest_asked_sets.nd rfl (Or.inr rfl) (pe_callB (cr_min rfl) (by rfl) N.min (by decide +kernel) (pa_cons (pe_lc (own := [("chosen", 4)]) (g := gName 4) rfl sc_fewest_asked_sets.nd (pi_list (pv 2)) (blkOk_by (N := ["rule", "deeds", "asked", "fewest", "chosen"]) (sc := defScope s_fewest_asked_sets) (by decide +kernel)) (fun _ _ _ _ _ => pg_name (i := 4) sc_fewest_asked_sets.nd rfl (Or.inl rfl)) (fun _ _ _ _ _ => pts_nil) (fun _ _ _ _ _ => (pe_call G_how_many_in hr_how_many_in rfl g_how_many_in k_how_many_in b_how_many_in .nil pass0 (pa_cons (pv 4) pa_nil)))) pa_nil)))
        (pss_one (ps_ret (pe_callB cr_sortedI (by rfl) N.sorted (by decide +kernel) (pa_cons (pe_lc (own := [("chosen", 4)]) (g := gName 4) rfl sc_fewest_asked_sets.nd (pi_list (pv 2)) (blkOk_by (N := ["rule", "deeds", "asked", "fewest", "chosen"]) (sc := defScope s_fewest_asked_sets) (by decide +kernel)) (fun _ _ _ _ _ => pg_name (i := 4) sc_fewest_asked_sets.nd rfl (Or.inl rfl)) (fun _ _ _ _ _ => pts_one (pt_cmpR op_eq (pe_call G_how_many_in hr_how_many_in rfl g_how_many_in k_how_many_in b_how_many_in .nil pass0 (pa_cons (pv 4) pa_nil)) (pv 3) (nomark _))) (fun _ _ _ _ _ => (pv 4))) pa_nil)))))), ?_⟩
    refine ⟨_, rfl, _, rfl, a, l, rfl, hds, hwf, fun H1 p1 s1 hp0 hp1 => ?_⟩
    have lM : (Kh411.mostFree a).length ≤ 2 ^ a.deeds.length := Ka.rising_len (Ka.mostFree_rising a) fun x hx => (Ka.mem_mostFree.mp hx).1
    refine ⟨p1, rfl, ⟨_, SqL.of hp1⟩, fun D hD => lc_list (K := K) (a := p1) (xs := nV (Kh411.mostFree a)) (fun i H' => Same H1 H' ∧ H' D = some (.lst (nV (((Kh411.mostFree a).take i).map (cm a.deeds.length))))) ⟨Same.new hD, upd_same⟩ (fun i H' _ ⟨s, _⟩ => SqL.of (s _ _ hp1)) ?_ ?_⟩
    · rintro i y H2 hi ⟨s2, hD2⟩
      obtain ⟨x, hx, rfl⟩ := nat_at hi
      have hxl := (Ka.mem_mostFree.mp (List.mem_of_getElem? hx)).1
      refine ⟨rfl, ?_⟩
      refine tyes ?_
      refine iteT ⟨_, rfl, l, _, rfl, (s1.trans s2).seq hl, by omega, _, rfl, _, _, rfl, rfl, _, hD2, ?_, Same.none_upd s2 hD, ?_⟩
      · rw [nV_len, List.length_map, List.length_take]
        exact small1000 (by omega)
      · rw [upd_same, Ka.take_more hx, List.map_append, nV_app, hlen]
        have ex : V.int (Builtin.bitXor ((2 ^ a.deeds.length - 1 : Nat) : Int) (x : Int)) = V.int ((cm a.deeds.length x : Nat) : Int) := by
          rw [b_xor]
          rfl
        exact congrArg (fun v => some (HO.lst (nV (List.map (cm a.deeds.length) (List.take i (Kh411.mostFree a))) ++ [v]))) ex
    rintro H2 ⟨s2, hD2⟩
    rw [nV_len, List.take_length] at hD2
    have hA : ∀ x ∈ (Kh411.mostFree a).map (cm a.deeds.length), x < 2 ^ a.deeds.length := fun x hx => by
      obtain ⟨f, hf, rfl⟩ := List.mem_map.mp hx
      exact Ka.cm_lt (Ka.mem_mostFree.mp hf).1
    have lA : ((Kh411.mostFree a).map (cm a.deeds.length)).length ≤ 64 := by
      rw [List.length_map]
      omega
    have hne : (Kh411.mostFree a).map (cm a.deeds.length) ≠ [] := fun e => Ka.mostFree_ne hwf.m1 (List.map_eq_nil_iff.mp e)
    have fin : ∀ (k : Nat) (ys : List Nat), (∃ x ∈ (Kh411.mostFree a).map (cm a.deeds.length), k = (lets x a.deeds.length).length) → (∀ x ∈ (Kh411.mostFree a).map (cm a.deeds.length), k ≤ (lets x a.deeds.length).length) → ys.Perm (((Kh411.mostFree a).map (cm a.deeds.length)).filter fun x => decide ((lets x a.deeds.length).length = k)) → ys.Pairwise (· ≤ ·) → ys = Kh411.askedOf a := by
      intro k ys h1 h2 h3 h4
      refine Ka.asked_is (k := k) ?_ (fun f hf => ?_) ?_ h4
      · obtain ⟨x, hx, e⟩ := h1
        obtain ⟨f, hf, rfl⟩ := List.mem_map.mp hx
        exact ⟨f, hf, by rw [Ka.size_lets]; exact e⟩
      · rw [Ka.size_lets]
        exact h2 _ (List.mem_map.mpr ⟨f, hf, rfl⟩)
      · refine h3.trans (List.Perm.of_eq ?_)
        refine List.filter_congr fun x _ => ?_
        rw [Ka.size_lets]
    generalize (Kh411.mostFree a).map (cm a.deeds.length) = A at hD2 hA lA hne fin
    have s12 := s1.trans s2
    have hD0 : H D = none := s1.free hD
    refine ⟨_, rfl, D, rfl, ⟨_, SqL.of hD2⟩, fun D2 hDn => lc_list (K := K) (a := D) (xs := nV A) (fun i H' => Same H2 H' ∧ H' D2 = some (.lst (nV ((A.take i).map fun x => (lets x a.deeds.length).length)))) ⟨Same.new hDn, upd_same⟩ (fun i H' _ ⟨s, _⟩ => SqL.of (s _ _ hD2)) ?_ ?_⟩
    · rintro i y H3 hi ⟨s3, hD3⟩
      obtain ⟨x, hx, rfl⟩ := nat_at hi
      have hxl := hA x (List.mem_of_getElem? hx)
      refine ⟨rfl, ?_⟩
      refine tyes ?_
      refine iteT ⟨_, rfl, x, a.deeds.length, rfl, hxl, by omega, _, hD3, ?_, Same.none_upd s3 hDn, ?_⟩
      · rw [nV_len, List.length_map, List.length_take]
        exact small1000 (by omega)
      · rw [upd_same, Ka.take_more hx, List.map_append, nV_app]
        rfl
    rintro H3 ⟨s3, hD3⟩
    rw [nV_len, List.take_length] at hD3
    refine ⟨D2, (A.map fun x => (lets x a.deeds.length).length).map fun t : Nat => (t : Int), rfl, by rw [← nV_ints]; exact SqL.of hD3, ?_, fun m hm hmin => ?_⟩
    · rw [List.length_map, List.length_map]
      exact List.length_pos_iff.mpr hne
    obtain ⟨k, hk, rfl⟩ := List.mem_map.mp hm
    obtain ⟨x0, hx0, rfl⟩ := List.mem_map.mp hk
    have hmin' : ∀ x ∈ A, (lets x0 a.deeds.length).length ≤ (lets x a.deeds.length).length := fun x hx => by
      have := hmin _ (List.mem_map.mpr ⟨_, List.mem_map.mpr ⟨x, hx, rfl⟩, rfl⟩)
      omega
    have s13 := s12.trans s3
    have fin := fun ys => fin (lets x0 a.deeds.length).length ys ⟨x0, hx0, rfl⟩ hmin'
    generalize (lets x0 a.deeds.length).length = k at fin ⊢
    have hD4 := s3 _ _ hD2
    refine ⟨_, rfl, D, rfl, ⟨_, SqL.of hD4⟩, fun D5 hD5 => lc_list (K := K) (a := D) (xs := nV A) (fun i H' => Same H3 H' ∧ H' D5 = some (.lst (nV ((A.take i).filter fun x => decide ((lets x a.deeds.length).length = k))))) ⟨Same.new hD5, upd_same⟩ (fun i H' _ ⟨s, _⟩ => SqL.of (s _ _ hD4)) ?_ ?_⟩
    · rintro i y H4 hi ⟨s4, hD6⟩
      obtain ⟨x, hx, rfl⟩ := nat_at hi
      have hxl := hA x (List.mem_of_getElem? hx)
      refine ⟨rfl, _, rfl, x, a.deeds.length, rfl, hxl, by omega, _, rfl, rfl, _, rfl, ?_⟩
      rw [dec_int, dec_nat, Ka.take_more hx, List.filter_append]
      by_cases c : (lets x a.deeds.length).length = k
      · rw [decide_eq_true c]
        refine iteT ⟨_, rfl, _, hD6, ?_, Same.none_upd s4 hD5, ?_⟩
        · rw [nV_len]
          refine small1000 (Nat.le_trans (List.length_filter_le _ _) ?_)
          rw [List.length_take]
          omega
        · rw [upd_same, nV_app]
          simp [c]
          rfl
      · rw [decide_eq_false c]
        refine iteF ⟨s4, ?_⟩
        rw [hD6]
        simp [c]
    rintro H4 ⟨s4, hD6⟩
    rw [nV_len, List.take_length] at hD6
    refine ⟨D5, (A.filter fun x => decide ((lets x a.deeds.length).length = k)).map fun t : Nat => (t : Int), rfl, by rw [← nV_ints]; exact SqL.of hD6, fun ys r hperm hsort hr0 => ?_⟩
    obtain ⟨ns, rfl, hp4, hs4⟩ := ints_back hperm hsort
    have s14 := s13.trans s4
    refine hQ _ r (Same.none_upd s14 (s14.free hr0)) (s14.free hr0) ?_
    rw [upd_same, ← nV_ints, fin ns hp4 hs4]
end
end Kp
-- KpFirst
namespace Kp
open PySem PySem.Spec PyProof.Rows L2
open Kh411 (Deed Abs Call Ans)
open Ka (lets)
/-! ### the first break -/
def brk (a : Abs) (k : Nat) : List Nat := match Kh411.broken a k with
  | none => []
  | some x => x.1 :: (x.2 ++ [Kh411.together a.m x.1 x.2])
theorem brk_keeps (a : Abs) (k : Nat) : Kh411.keeps a k = decide (brk a k = []) := by
  rw [Ka.keeps_broken]
  unfold brk
  cases Kh411.broken a k <;> rfl
theorem fs_none_take {α β : Type} {f : α → Option β} {l : List α} {i : Nat} {x : α} (h : l[i]? = some x) (hn : (l.take i).findSome? f = none) (hx : f x = none) : (l.take (i + 1)).findSome? f = none := by
  rw [Ka.take_more h, List.findSome?_append, hn, Option.none_or]
  simp [hx]
theorem fs_some_take {α β : Type} {f : α → Option β} {l : List α} {i : Nat} {x : α} {y : β} (h : l[i]? = some x) (hn : (l.take i).findSome? f = none) (hx : f x = some y) : l.findSome? f = some y := by
  have e : l = l.take (i + 1) ++ l.drop (i + 1) := (List.take_append_drop _ _).symm
  rw [e, Ka.take_more h, List.findSome?_append, List.findSome?_append, hn, Option.none_or]
  simp [hx]
def spBreak (K : PySem.W.Frag) (CD : Addr) : Sp := fun vs H Q _ => ∃ (a : Abs) (l : Addr) (k : Nat), vs = [.int (a.rule : Int), .ref l, .int (k : Int)] ∧ DsAt K CD H l a.deeds ∧ Wf a ∧ 1 ≤ k ∧ k ≤ 4 ∧
  ∀ H' p, Same H H' → H p = none → H' p = some (.lst (nV (brk a k))) → Q (.ref p) H'
def spFewest (K : PySem.W.Frag) (CD : Addr) : Sp := fun vs H Q _ => ∃ (a : Abs) (l : Addr), vs = [.int (a.m : Int), .int (a.rule : Int), .ref l] ∧ DsAt K CD H l a.deeds ∧ Wf a ∧ ∀ H', Same H H' → Q (.int (((Ka.fewestOf a).getD 0 : Nat) : Int)) H'
/-! ### clashes -/
def clashP (a : Abs) (d e : Deed) (s : Nat) : Bool := match Kh411.done a s d, Kh411.done a s e with
  | some y, some z => !Kh411.let_ a (Kh411.together a.m s [y, z])
  | _, _ => false
theorem clash_lets (a : Abs) (d e : Deed) : Kh411.clash a d e = (lets a.rule (2 ^ a.m)).find? (clashP a d e) := by
  rw [← Ka.lets_eq, Ka.find_filter]
  rfl
theorem clashP_is {a : Abs} {d e : Deed} {z : Nat} (hd : DOk a.m d) (he : DOk a.m e) (hz : z < 2 ^ a.m) : clashP a d e z = (canDo a.rule d z && (canDo a.rule e z && !a.rule.testBit (z ^^^ Ka.chg z [aft d z, aft e z]))) := by
  unfold clashP
  rw [done_eq hd hz, done_eq he hz]
  cases c1 : canDo a.rule d z with
  | false => rfl
  | true =>
    cases c2 : canDo a.rule e z with
    | false => rfl
    | true =>
      rw [if_pos rfl, if_pos rfl]
      show (!Kh411.let_ a (Kh411.together a.m z [aft d z, aft e z])) = (true && (true && _))
      have h1 : aft d z < 2 ^ a.m := by
        rw [aft_after hd hz]
        exact Ka.after_lt _ _ _
      have h2 : aft e z < 2 ^ a.m := by
        rw [aft_after he hz]
        exact Ka.after_lt _ _ _
      rw [Ka.together_eq hz (by simp [h1, h2]), Bool.true_and, Bool.true_and]
      rw [show Kh411.let_ a (z ^^^ Ka.chg z [aft d z, aft e z]) = a.rule.testBit (z ^^^ Ka.chg z [aft d z, aft e z]) from Ka.has_tb _ _]
def spClash (CD : Addr) : Sp := fun vs H Q _ => ∃ (a : Abs) (p q : Addr) (d e : Deed), vs = [.int (a.rule : Int), .ref p, .ref q] ∧ DeedAt CD H p d ∧ DeedAt CD H q e ∧ Wf a ∧ DOk a.m d ∧ DOk a.m e ∧
  ∀ H' r, Same H H' → H r = none → H' r = some (.lst (nV (Kh411.clash a d e).toList)) → Q (.ref r) H'
def twoP (a : Abs) (p : Nat × Nat) : Bool := match a.deeds[p.1]?, a.deeds[p.2]? with
  | some d, some e => (Kh411.clash a d e).isSome
  | _, _ => false
def twos (a : Abs) : List (Nat × Nat) := (Kh411.pairs a.deeds.length).filter (twoP a)
def TupsAt (H : Hp) : List Addr → List (Nat × Nat) → Prop
  | [], [] => True
  | t :: ts, p :: l => H t = some (.tup [.int (p.1 : Int), .int (p.2 : Int)]) ∧ TupsAt H ts l
  | _, _ => False
theorem TupsAt.other {H H' : Hp} (k : ∀ t xs, H t = some (.tup xs) → H' t = some (.tup xs)) : ∀ {ts : List Addr} {l : List (Nat × Nat)}, TupsAt H ts l → TupsAt H' ts l
  | [], [], _ => trivial
  | _ :: _, _ :: _, h => ⟨k _ _ h.1, TupsAt.other k h.2⟩
  | [], _ :: _, h => h.elim
  | _ :: _, [], h => h.elim
theorem TupsAt.same {H H' : Hp} (s : Same H H') {ts : List Addr} {l : List (Nat × Nat)} (h : TupsAt H ts l) : TupsAt H' ts l := h.other fun t xs e => s t _ e
theorem TupsAt.len {H : Hp} : ∀ {ts : List Addr} {l : List (Nat × Nat)}, TupsAt H ts l → ts.length = l.length
  | [], [], _ => rfl
  | _ :: _, _ :: _, h => congrArg (· + 1) h.2.len
  | [], _ :: _, h => h.elim
  | _ :: _, [], h => h.elim
theorem TupsAt.app {H : Hp} {t : Addr} {p : Nat × Nat} (hp : H t = some (.tup [.int (p.1 : Int), .int (p.2 : Int)])) : ∀ {ts : List Addr} {l : List (Nat × Nat)}, TupsAt H ts l → TupsAt H (ts ++ [t]) (l ++ [p])
  | [], [], _ => ⟨hp, trivial⟩
  | _ :: _, _ :: _, h => ⟨h.1, h.2.app hp⟩
  | [], _ :: _, h => h.elim
  | _ :: _, [], h => h.elim
theorem TupsAt.get {H : Hp} : ∀ {ts : List Addr} {l : List (Nat × Nat)}, TupsAt H ts l → ∀ {i : Nat} {t : Addr}, ts[i]? = some t → ∃ p, l[i]? = some p ∧ H t = some (.tup [.int (p.1 : Int), .int (p.2 : Int)])
  | t :: ts, p :: l, h, 0, q, e => by
    cases e
    exact ⟨p, rfl, h.1⟩
  | _ :: ts, _ :: l, h, i + 1, q, e => h.2.get (i := i) e
  | [], [], _, _, _, e => by cases e
  | [], _ :: _, h, _, _, _ => h.elim
  | _ :: _, [], h, _, _, _ => h.elim
theorem tups_lst {H : Hp} {L : Addr} {xs : List V} {o : HO} (hL : H L = some (.lst xs)) : ∀ t ys, H t = some (.tup ys) → (upd H L o) t = some (.tup ys) := fun t ys e => by
  have : t ≠ L := ne_of e hL (by intro z; cases z)
  rw [upd_ne this]
  exact e
def spTwos (K : PySem.W.Frag) (CD : Addr) : Sp := fun vs H Q _ => ∃ (a : Abs) (l : Addr), vs = [.int (a.rule : Int), .ref l] ∧ DsAt K CD H l a.deeds ∧ Wf a ∧
  ∀ (H' : Hp) (p : Addr) (ts : List Addr), Same H H' → H p = none → H' p = some (.lst (ts.map V.ref)) → TupsAt H' ts (twos a) → ts.length ≤ 36 → Q (.ref p) H'
def spOpening : Sp := fun vs H Q _ => ∃ (a : Abs), vs = [.int (a.rule : Int)] ∧ Wf a ∧ ∀ H' p, Same H H' → H p = none → H' p = some (.lst (nV ((Ka.opn a (lets a.rule (2 ^ a.m))).getD []))) → Q (.ref p) H'
section
variable {P : Program} {w : World} {K : PySem.W.Frag} {mg : Str → Option Value} {base : Heap} {CC CD : Addr}
theorem ok_first_break (D : Df K mg "first_break" ["rule", "deeds", "k"] s_first_break) (T : CT K CD) (TH : HT K CC) (N : Cn mg)
    (O_states_let : Ok P w K mg base "states_let" ["rule"] 3 (spLets))
    (O_first_breaking_row : Ok P w K mg base "first_breaking_row" ["rule", "deeds", "s", "k"] 5 (spBad K CD))
    (O_put_together : Ok P w K mg base "put_together" ["s", "states"] 1 (spTog K)) :
    Ok P w K mg base "first_break" ["rule", "deeds", "k"] 6 (spBreak K CD) := by
  obtain ⟨f_states_let, fd_states_let, G_states_let, g_states_let, k_states_let, b_states_let⟩ := O_states_let
  obtain ⟨f_first_breaking_row, fd_first_breaking_row, G_first_breaking_row, g_first_breaking_row, k_first_breaking_row, b_first_breaking_row⟩ := O_first_breaking_row
  obtain ⟨f_put_together, fd_put_together, G_put_together, g_put_together, k_put_together, b_put_together⟩ := O_put_together
  refine Ok.mk D sc_first_break (fun vs H Q E h => ?_) (fun f cdv A outer s H vs Q E hr h => ?_)
  · obtain ⟨a, l, k, rfl, _⟩ := h
    rfl
  · obtain ⟨a, l, k, rfl, ⟨ds, hl, hds⟩, hwf, hk1, hk4, hQ⟩ := h
    have h16 := pow4 hwf.m4
    have hu := hu_of hr
    have hr_states_let : Room 3 _ := hr.mono (by decide)
    have hr_first_breaking_row : Room 5 _ := hr.mono (by decide)
    have hr_put_together : Room 1 _ := hr.mono (by decide)
    refine ⟨_, (pss_cons (ps_for PassesOwn.never rfl (pi_list (pe_call G_states_let hr_states_let rfl g_states_let k_states_let b_states_let .nil pass0 (pa_cons (pv 0) pa_nil))) (pg_name (i := 3) sc_first_break.nd rfl (Or.inl rfl)) (pss_cons (ps_set (i := 4) sc_first_break.nd rfl (Or.inl rfl) (pe_call G_first_breaking_row hr_first_breaking_row rfl g_first_breaking_row k_first_breaking_row b_first_breaking_row .nil pass0 (pa_cons (pv 0) (pa_cons (pv 1) (pa_cons (pv 3) (pa_cons (pv 2) pa_nil))))))
        (pss_one (ps_if (pt_cmpR op_gt (pe_callB call_len_seq (by rfl) N.len PySem.boot_len (pa_cons (pv 4) pa_nil)) pe_int (nomark _)) (pss_one (ps_ret (pe_op op_cat (pe_op op_cat (pe_lst (pa_cons (pv 3) pa_nil)) (pv 4)) (pe_lst (pa_cons (pe_call G_put_together hr_put_together rfl g_put_together k_put_together b_put_together .nil pass0 (pa_cons (pv 3) (pa_cons (pv 4) pa_nil))) pa_nil))))) pss_nil))))
        (pss_one (ps_ret (pe_lst pa_nil)))), ?_⟩
    refine ⟨_, rfl, a.rule, 2 ^ a.m, rfl, hwf.r, hwf.n64, fun H1 p1 s01 hp0 hp1 => ?_⟩
    refine ⟨p1, rfl, ⟨_, SqL.of hp1⟩, for_list (K := K) (a := p1) (xs := nV (lets a.rule (2 ^ a.m))) (fun i σ H' => ∃ (v3 v4 : Option V), σ = [some (.int (a.rule : Int)), some (.ref l), some (.int (k : Int)), v3, v4] ∧ Same H1 H' ∧ ((lets a.rule (2 ^ a.m)).take i).findSome? (fun s => (Kh411.brokenAt a k s).map fun l => (s, l)) = none)
      ⟨none, none, rfl, Same.refl H1, rfl⟩ (fun i σ H' _ ⟨_, _, _, s, _⟩ => SqL.of (s _ _ hp1)) ?_ ?_⟩
    · rintro i' y σ H2 hi' ⟨v3, v4, rfl, s12, hno⟩
      obtain ⟨i, hat, rfl⟩ := nat_at hi'
      obtain ⟨hi, hlz⟩ := lets_at hat
      have s1 := s01.trans s12
      have eb := Ka.firstBad_is (k := k) hi hlz
      refine ⟨_, rfl, _, rfl, _, rfl, _, rfl, a, l, ds, i, k, rfl, s1.seq hl, hds.same s1, hwf.m4, hwf.ok, hi, hk4, fun H2 p2 s2 hp0 hp2 => ?_⟩
      rw [← eb] at hp2
      refine ⟨_, rfl, p2, _, rfl, .inl (SqL.of hp2), _, _, rfl, rfl, _, rfl, ?_⟩
      rw [nV_len]
      cases cb : Kh411.brokenAt a k i with
      | none =>
        refine iteF ⟨_, _, rfl, s12.trans s2, fs_none_take hat hno ?_⟩
        rw [cb]
        rfl
      | some r =>
        rw [cb] at hp2
        have hp2' : H2 p2 = some (.lst (nV r)) := hp2
        have hlen := Ka.brokenAt_len hi cb
        show if decide ((0 : Int) < ((r.length : Nat) : Int)) = true then _ else _
        rw [decide_eq_true (by omega)]
        have hbr : Kh411.broken a k = some (i, r) := by
          rw [Ka.broken_lets]
          exact fs_some_take hat hno (by rw [cb]; rfl)
        have hri := ((Ka.brokenAt_some hi r).mp cb).2.tup
        have s012 := s1.trans s2
        refine iteT ⟨_, rfl, one_ok, fun p3 hp3 => ?_⟩
        have n23 : p2 ≠ p3 := ne_of_none hp2' hp3
        refine ⟨_, rfl, p3, p2, _, _, rfl, rfl, upd_same, (upd_ne n23).trans hp2', ?_, fun p4 hp4 => ?_⟩
        · rw [nV_len]
          show 1 + _ ≤ sizeLine
          exact Nat.le_of_lt (small1000 (by omega))
        have s3 : Same H2 (upd H2 p3 (.lst [V.int (i : Int)])) := Same.new hp3
        have s4 : Same H2 (upd (upd H2 p3 (.lst [V.int (i : Int)])) p4 (.lst ([V.int (i : Int)] ++ nV r))) := Same.none_upd s3 (s3.free hp4)
        have h44 : (upd (upd H2 p3 (.lst [V.int (i : Int)])) p4 (.lst ([V.int (i : Int)] ++ nV r))) p4 = some (.lst (nV (i :: r))) := upd_same
        generalize upd (upd H2 p3 (.lst [V.int (i : Int)])) p4 (.lst ([V.int (i : Int)] ++ nV r)) = H4 at s4 h44 ⊢
        refine ⟨_, rfl, _, rfl, i, p2, r, rfl, SqL.of (s4 _ _ hp2'), one_ok, fun p5 hp5 => ?_⟩
        have n45 : p4 ≠ p5 := ne_of_none h44 hp5
        refine ⟨p4, p5, _, _, rfl, rfl, (upd_ne n45).trans h44, upd_same, ?_, fun p6 hp6 => ?_⟩
        · rw [nV_len]
          show r.length + 1 + 1 ≤ sizeLine
          exact Nat.le_of_lt (small1000 (by omega))
        have s5 : Same H (upd H4 p5 (.lst [V.int ((i ^^^ Ka.chg i r : Nat) : Int)])) := Same.none_upd (s012.trans s4) ((s012.trans s4).free hp5)
        refine hQ _ p6 (Same.none_upd s5 (s5.free hp6)) (s5.free hp6) ?_
        rw [upd_same]
        unfold brk
        rw [hbr]
        show some (HO.lst (nV (i :: r) ++ [V.int ((i ^^^ Ka.chg i r : Nat) : Int)])) = some (HO.lst (nV (i :: (r ++ [Kh411.together a.m i r]))))
        rw [Ka.together_eq hi fun y hy => Ka.reach_lt hi (hri.mem y hy)]
        show _ = some (HO.lst (nV ((i :: r) ++ [i ^^^ Ka.chg i r])))
        rw [nV_app]
        rfl
    · rintro σ H2 ⟨v3, v4, rfl, s2, hno⟩
      have s1 := s01.trans s2
      refine ⟨Nat.zero_le _, fun p hp => hQ _ p (Same.none_upd s1 (s1.free hp)) (s1.free hp) ?_⟩
      rw [upd_same]
      rw [nV_len, List.take_length, ← Ka.broken_lets] at hno
      unfold brk
      rw [hno]
      rfl
theorem ok_fewest_that_break (D : Df K mg "fewest_that_break" ["facts", "rule", "deeds"] s_fewest_that_break) (T : CT K CD) (TH : HT K CC) (N : Cn mg)
    (O_first_break : Ok P w K mg base "first_break" ["rule", "deeds", "k"] 6 (spBreak K CD)) :
    Ok P w K mg base "fewest_that_break" ["facts", "rule", "deeds"] 7 (spFewest K CD) := by
  obtain ⟨f_first_break, fd_first_break, G_first_break, g_first_break, k_first_break, b_first_break⟩ := O_first_break
  refine Ok.mk D sc_fewest_that_break (fun vs H Q E h => ?_) (fun f cdv A outer s H vs Q E hr h => ?_)
  · obtain ⟨a, l, rfl, _⟩ := h
    rfl
  · obtain ⟨a, l, rfl, hds, hwf, hQ⟩ := h
    have m4 := hwf.m4
    have hu := hu_of hr
    have hr_first_break : Room 6 _ := hr.mono (by decide)
    refine ⟨_, (pss_cons (ps_for PassesOwn.never rfl (pi_range2 rfl N.range (pa_cons pe_int (pa_cons (pe_op op_add (pv 0) pe_int) pa_nil))) (pg_name (i := 3) sc_fewest_that_break.nd rfl (Or.inl rfl)) (pss_one (ps_if (pt_cmpR op_gt (pe_callB call_len_seq (by rfl) N.len PySem.boot_len (pa_cons (pe_call G_first_break hr_first_break rfl g_first_break k_first_break b_first_break .nil pass0 (pa_cons (pv 1) (pa_cons (pv 2) (pa_cons (pv 3) pa_nil)))) pa_nil)) pe_int (nomark _)) (pss_one (ps_ret (pv 3))) pss_nil)))
        (pss_one (ps_ret pe_int))), ?_⟩
    refine ⟨_, rfl, _, _, rfl, rfl, _, _, rfl, ⟨by decide, by decide, by omega, by omega⟩, ?_⟩
    rw [show ((a.m : Int) + 1 - 1).toNat = a.m by omega]
    refine for_range (lo := 1) (n := a.m) (fun i σ H' => ∃ (v3 : Option V), σ = [some (.int (a.m : Int)), some (.int (a.rule : Int)), some (.ref l), v3] ∧ Same H H' ∧ ∀ j, j ≤ i → Kh411.keeps a j = true)
      ⟨none, rfl, Same.refl H, fun j hj => Ka.keeps_le (Ka.keeps_one a) (by omega)⟩ ?_ ?_
    · rintro i σ H1 hi ⟨v3, rfl, s1, hall⟩
      rw [show (1 : Int) + ((i : Nat) : Int) = ((i + 1 : Nat) : Int) by omega]
      refine ⟨_, rfl, _, rfl, _, rfl, a, l, i + 1, rfl, hds.same s1, hwf, by omega, by omega, fun H2 p2 s2 hp0 hp2 => ?_⟩
      refine ⟨p2, _, rfl, .inl (SqL.of hp2), _, _, rfl, rfl, _, rfl, ?_⟩
      rw [nV_len]
      have bk := brk_keeps a (i + 1)
      cases cb : brk a (i + 1) with
      | nil =>
        rw [cb] at bk
        refine iteF ⟨_, rfl, s1.trans s2, fun j hj => ?_⟩
        by_cases c : j = i + 1
        · rw [c, bk]
          rfl
        · exact hall j (by omega)
      | cons x r =>
        rw [cb] at bk
        have bk' : Kh411.keeps a (i + 1) = false := bk
        show if decide ((0 : Int) < (((x :: r).length : Nat) : Int)) = true then _ else _
        rw [decide_eq_true (by rw [List.length_cons]; omega)]
        rw [Ka.fewest_is hwf.m1 bk' fun j hj => hall j (by omega)] at hQ
        exact iteT ⟨_, rfl, hQ _ (s1.trans s2)⟩
    · rintro σ H1 ⟨v3, rfl, s1, hall⟩
      rw [Ka.fewest_not hall] at hQ
      exact hQ _ s1
theorem ok_first_clash (D : Df K mg "first_clash" ["rule", "one", "other"] s_first_clash) (T : CT K CD) (TH : HT K CC) (N : Cn mg)
    (O_states_let : Ok P w K mg base "states_let" ["rule"] 3 (spLets))
    (O_can_be_done : Ok P w K mg base "can_be_done" ["rule", "deed", "s"] 3 (spCan CD))
    (O_is_let : Ok P w K mg base "is_let" ["rule", "s"] 2 (spLet))
    (O_put_together : Ok P w K mg base "put_together" ["s", "states"] 1 (spTog K))
    (O_state_after : Ok P w K mg base "state_after" ["deed", "s"] 1 (spAfter CD)) :
    Ok P w K mg base "first_clash" ["rule", "one", "other"] 4 (spClash CD) := by
  obtain ⟨f_states_let, fd_states_let, G_states_let, g_states_let, k_states_let, b_states_let⟩ := O_states_let
  obtain ⟨f_can_be_done, fd_can_be_done, G_can_be_done, g_can_be_done, k_can_be_done, b_can_be_done⟩ := O_can_be_done
  obtain ⟨f_is_let, fd_is_let, G_is_let, g_is_let, k_is_let, b_is_let⟩ := O_is_let
  obtain ⟨f_put_together, fd_put_together, G_put_together, g_put_together, k_put_together, b_put_together⟩ := O_put_together
  obtain ⟨f_state_after, fd_state_after, G_state_after, g_state_after, k_state_after, b_state_after⟩ := O_state_after
  refine Ok.mk D sc_first_clash (fun vs H Q E h => ?_) (fun f cdv A outer s H vs Q E hr h => ?_)
  · obtain ⟨a, p, q, d, e, rfl, _⟩ := h
    rfl
  · obtain ⟨a, p, q, d, e, rfl, hp, hq, hwf, hd, he, hQ⟩ := h
    have hu := hu_of hr
    have hr_states_let : Room 3 _ := hr.mono (by decide)
    have hr_can_be_done : Room 3 _ := hr.mono (by decide)
    have hr_is_let : Room 2 _ := hr.mono (by decide)
    have hr_put_together : Room 1 _ := hr.mono (by decide)
    have hr_state_after : Room 1 _ := hr.mono (by decide)
    refine ⟨_, (pss_cons (ps_for PassesOwn.never rfl (pi_list (pe_call G_states_let hr_states_let rfl g_states_let k_states_let b_states_let .nil pass0 (pa_cons (pv 0) pa_nil))) (pg_name (i := 3) sc_first_clash.nd rfl (Or.inl rfl)) (pss_one (ps_if (PW.pt (pw_and (pt_val (pe_call G_can_be_done hr_can_be_done rfl g_can_be_done k_can_be_done b_can_be_done .nil pass0 (pa_cons (pv 0) (pa_cons (pv 1) (pa_cons (pv 3) pa_nil))))) (pw_and1 (pt_val (pe_call G_can_be_done hr_can_be_done rfl g_can_be_done k_can_be_done b_can_be_done .nil pass0 (pa_cons (pv 0) (pa_cons (pv 2) (pa_cons (pv 3) pa_nil)))))))) (pss_one (ps_if (pt_not (pt_val (pe_call G_is_let hr_is_let rfl g_is_let k_is_let b_is_let .nil pass0 (pa_cons (pv 0) (pa_cons (pe_call G_put_together hr_put_together rfl g_put_together k_put_together b_put_together .nil pass0 (pa_cons (pv 3) (pa_cons (pe_lst (pa_cons (pe_call G_state_after hr_state_after rfl g_state_after k_state_after b_state_after .nil pass0 (pa_cons (pv 1) (pa_cons (pv 3) pa_nil))) (pa_cons (pe_call G_state_after hr_state_after rfl g_state_after k_state_after b_state_after .nil pass0 (pa_cons (pv 2) (pa_cons (pv 3) pa_nil))) pa_nil))) pa_nil))) pa_nil))))) (pss_one (ps_ret (pe_lst (pa_cons (pv 3) pa_nil)))) pss_nil)) pss_nil)))
        (pss_one (ps_ret (pe_lst pa_nil)))), ?_⟩
    refine ⟨_, rfl, a.rule, 2 ^ a.m, rfl, hwf.r, hwf.n64, fun H1 p1 s01 hp0 hp1 => ?_⟩
    rw [clash_lets] at hQ
    refine ⟨p1, rfl, ⟨_, SqL.of hp1⟩, for_list (K := K) (a := p1) (xs := nV (lets a.rule (2 ^ a.m))) (fun i σ H' => ∃ (v3 : Option V), σ = [some (.int (a.rule : Int)), some (.ref p), some (.ref q), v3] ∧ Same H1 H' ∧ ((lets a.rule (2 ^ a.m)).take i).find? (clashP a d e) = none)
      ⟨none, rfl, Same.refl H1, rfl⟩ (fun i σ H' _ ⟨_, _, s, _⟩ => SqL.of (s _ _ hp1)) ?_ ?_⟩
    · rintro i y σ H2 hi ⟨v3, rfl, s12, hno⟩
      obtain ⟨z, hat, rfl⟩ := nat_at hi
      obtain ⟨hz, hlz⟩ := lets_at hat
      have s1 := s01.trans s12
      have hp2 := hp.same s1
      have hq2 := hq.same s1
      have eP := clashP_is hd he hz
      refine ⟨_, rfl, _, rfl, _, rfl, a.rule, p, d, z, rfl, hp2, _, rfl, ?_⟩
      cases c1 : canDo a.rule d z with
      | false =>
        rw [c1] at eP
        exact iteF (iteF ⟨_, rfl, s12, find_none_take hat hno eP⟩)
      | true =>
        rw [c1] at eP
        refine iteT ⟨_, rfl, _, rfl, _, rfl, a.rule, q, e, z, rfl, hq2, _, rfl, ?_⟩
        cases c2 : canDo a.rule e z with
        | false =>
          rw [c2] at eP
          exact iteF ⟨_, rfl, s12, find_none_take hat hno eP⟩
        | true =>
          rw [c2, Bool.true_and, Bool.true_and] at eP
          refine iteT ⟨_, rfl, _, rfl, _, rfl, _, rfl, p, d, z, rfl, hp2, _, rfl, _, rfl, q, e, z, rfl, hq2, two_ok, fun r hr2 => ?_⟩
          have s3 : Same H1 (upd H2 r (.lst (nV [aft d z, aft e z]))) := Same.none_upd s12 (s12.free hr2)
          have hr3 : (upd H2 r (.lst (nV [aft d z, aft e z]))) r = some (.lst (nV [aft d z, aft e z])) := upd_same
          refine ⟨z, r, [aft d z, aft e z], rfl, SqL.of hr3, a.rule, z ^^^ Ka.chg z [aft d z, aft e z], rfl, _, rfl, ?_⟩
          cases c3 : a.rule.testBit (z ^^^ Ka.chg z [aft d z, aft e z]) with
          | true =>
            rw [c3] at eP
            exact iteF ⟨_, rfl, s3, find_none_take hat hno eP⟩
          | false =>
            rw [c3] at eP
            rw [find_some_take hat hno eP] at hQ
            have s4 := s01.trans s3
            exact iteT ⟨_, rfl, one_ok, fun u hu2 => hQ _ u (Same.none_upd s4 (s4.free hu2)) (s4.free hu2) upd_same⟩
    · rintro σ H2 ⟨v3, rfl, s12, hno⟩
      rw [nV_len, List.take_length] at hno
      rw [hno] at hQ
      have s1 := s01.trans s12
      exact ⟨Nat.zero_le _, fun u hu2 => hQ _ u (Same.none_upd s1 (s1.free hu2)) (s1.free hu2) upd_same⟩
theorem ok_twos_that_clash (D : Df K mg "twos_that_clash" ["rule", "deeds"] s_twos_that_clash) (T : CT K CD) (TH : HT K CC) (N : Cn mg)
    (O_first_clash : Ok P w K mg base "first_clash" ["rule", "one", "other"] 4 (spClash CD)) :
    Ok P w K mg base "twos_that_clash" ["rule", "deeds"] 5 (spTwos K CD) := by
  obtain ⟨f_first_clash, fd_first_clash, G_first_clash, g_first_clash, k_first_clash, b_first_clash⟩ := O_first_clash
  refine Ok.mk D sc_twos_that_clash (fun vs H Q E h => ?_) (fun f cdv A outer s H vs Q E hr h => ?_)
  · obtain ⟨a, l, rfl, _⟩ := h
    rfl
  · obtain ⟨a, l, rfl, ⟨ds, hl, hds⟩, hwf, hQ⟩ := h
    have hn := hds.len
    have hlen : (ds.map V.ref).length = a.deeds.length := by rw [List.length_map, hn]
    have l6 := hwf.len
    have hu := hu_of hr
    have hr_first_clash : Room 4 _ := hr.mono (by decide)
    refine ⟨_, (pss_cons (ps_set (i := 2) sc_twos_that_clash.nd rfl (Or.inl rfl) (pe_lst pa_nil))
        (pss_cons (ps_for PassesOwn.never rfl (pi_range1 rfl N.range (pa_cons (pe_callB call_len_seq (by rfl) N.len PySem.boot_len (pa_cons (pv 1) pa_nil)) pa_nil)) (pg_name (i := 3) sc_twos_that_clash.nd rfl (Or.inl rfl)) (pss_one (ps_for PassesOwn.never rfl (pi_range2 rfl N.range (pa_cons (pv 3) (pa_cons (pe_callB call_len_seq (by rfl) N.len PySem.boot_len (pa_cons (pv 1) pa_nil)) pa_nil))) (pg_name (i := 4) sc_twos_that_clash.nd rfl (Or.inl rfl)) (pss_one (ps_if (pt_cmpR op_gt (pe_callB call_len_seq (by rfl) N.len PySem.boot_len (pa_cons (pe_call G_first_clash hr_first_clash rfl g_first_clash k_first_clash b_first_clash .nil pass0 (pa_cons (pv 0) (pa_cons (pe_ix ix_list (pv 1) (pv 3) (fun _ _ => rfl)) (pa_cons (pe_ix ix_list (pv 1) (pv 4) (fun _ _ => rfl)) pa_nil)))) pa_nil)) pe_int (nomark _)) (pss_one (ps_expr (pe_bm PySem.F.plainAttrs_list PySem.F.slot_list_append PySem.F.type_list_append mt_append (pv 2) (pa_cons (pe_tup (pa_cons (pv 3) (pa_cons (pv 4) pa_nil))) pa_nil)))) pss_nil)))))
        (pss_one (ps_ret (pv 2))))), ?_⟩
    refine ⟨Nat.zero_le _, fun q hq => ?_⟩
    have s1 : Same H (upd H q (.lst [])) := Same.new hq
    have hq1 : (upd H q (.lst [])) q = some (.lst (([] : List Addr).map V.ref)) := upd_same
    generalize upd H q (.lst []) = H1 at s1 hq1 ⊢
    refine ⟨_, rfl, l, _, rfl, .inl (s1.seq hl), ((a.deeds.length : Nat) : Int), by rw [hlen], by omega, by omega, for_range (lo := 0) (n := a.deeds.length) (fun i σ H' => ∃ (ts : List Addr) (v3 v4 : Option V), σ = [some (.int (a.rule : Int)), some (.ref l), some (.ref q), v3, v4] ∧ Same H H' ∧ H' q = some (.lst (ts.map V.ref)) ∧ ts.length ≤ 6 * i ∧ TupsAt H' ts (((List.range i).flatMap (Ka.rowOf a.deeds.length)).filter (twoP a)))
      ⟨[], none, none, rfl, s1, hq1, Nat.le_refl _, trivial⟩ ?_ ?_⟩
    · rintro i σ H2 hi ⟨ts, v3, v4, rfl, s2, hq2, lts, hts⟩
      rw [Int.zero_add]
      rw [List.range_succ, List.flatMap_append, List.filter_append]
      generalize ((List.range i).flatMap (Ka.rowOf a.deeds.length)).filter (twoP a) = acc at hts ⊢
      refine ⟨_, rfl, _, rfl, l, _, rfl, .inl (s2.seq hl), ((i : Nat) : Int), ((a.deeds.length : Nat) : Int), by rw [hlen], ⟨by omega, by omega, by omega, by omega⟩, ?_⟩
      rw [show (((a.deeds.length : Nat) : Int) - ((i : Nat) : Int)).toNat = a.deeds.length - i by omega]
      refine for_range (lo := ((i : Nat) : Int)) (n := a.deeds.length - i) (fun t σ H' => ∃ (ts : List Addr) (v4 : Option V), σ = [some (.int (a.rule : Int)), some (.ref l), some (.ref q), some (.int (i : Int)), v4] ∧ Same H H' ∧ H' q = some (.lst (ts.map V.ref)) ∧ ts.length ≤ 6 * i + t ∧ TupsAt H' ts (acc ++ ((List.range' i t).map fun j => (i, j)).filter (twoP a)))
        ⟨ts, v4, rfl, s2, hq2, lts, by rw [List.range'_zero]; simpa using hts⟩ ?_ ?_
      · rintro t σ H3 ht ⟨ts3, v4', rfl, s3, hq3, lts3, hts3⟩
        rw [show ((i : Nat) : Int) + ((t : Nat) : Int) = ((i + t : Nat) : Int) by omega]
        have hi2 : i < ds.length := by omega
        have hj2 : i + t < ds.length := by omega
        obtain ⟨d, hd, hD⟩ := (hds.same s3).get (List.getElem?_eq_getElem hi2)
        obtain ⟨e, he, hE⟩ := (hds.same s3).get (List.getElem?_eq_getElem hj2)
        have eT : twoP a (i, i + t) = (Kh411.clash a d e).isSome := by
          unfold twoP
          rw [hd, he]
        refine ⟨_, rfl, _, rfl, _, rfl, l, _, _, V.ref ds[i], rfl, rfl, s3.seq hl, atI_nat (j := i) (by rw [List.getElem?_map, List.getElem?_eq_getElem hi2]; rfl), _, rfl, _, rfl, l, _, _, V.ref ds[i + t], rfl, rfl, s3.seq hl, atI_nat (j := i + t) (by rw [List.getElem?_map, List.getElem?_eq_getElem hj2]; rfl), ?_⟩
        refine ⟨a, ds[i], ds[i + t], d, e, rfl, hD, hE, hwf, hwf.ok d (List.mem_of_getElem? hd), hwf.ok e (List.mem_of_getElem? he), fun H4 r s4 hr0 hr4 => ?_⟩
        refine ⟨r, _, rfl, .inl (SqL.of hr4), _, _, rfl, rfl, _, rfl, ?_⟩
        rw [nV_len, List.range'_1_concat, List.map_append, List.filter_append, ← List.append_assoc]
        have s34 := s3.trans s4
        have hq4 := s4 _ _ hq3
        have hts4 := hts3.same s4
        cases c : Kh411.clash a d e with
        | none =>
          rw [c] at eT
          refine iteF ⟨ts3, _, rfl, s34, hq4, by omega, ?_⟩
          have : (List.map (fun j => (i, j)) [i + t]).filter (twoP a) = [] := by
            show List.filter (twoP a) [(i, i + t)] = []
            rw [List.filter_cons_of_neg (by rw [eT]; decide)]
            rfl
          rw [this, List.append_nil]
          exact hts4
        | some z =>
          rw [c] at eT
          have : (List.map (fun j => (i, j)) [i + t]).filter (twoP a) = [(i, i + t)] := by
            show List.filter (twoP a) [(i, i + t)] = _
            rw [List.filter_cons_of_pos (by rw [eT]; rfl)]
            rfl
          rw [this]
          refine iteT ⟨_, rfl, .inl ⟨rfl, _, SqL.of hq4⟩, _, rfl, _, rfl, two_ok, fun u hu2 => ?_⟩
          have nqu : q ≠ u := ne_of_none hq4 hu2
          have s5 : Same H4 (upd H4 u (.tup [.int (i : Int), .int ((i + t : Nat) : Int)])) := Same.new hu2
          have hu5 : (upd H4 u (.tup [.int (i : Int), .int ((i + t : Nat) : Int)])) u = some (.tup [.int (i : Int), .int ((i + t : Nat) : Int)]) := upd_same
          have hq5 := s5 _ _ hq4
          have hts5 := (hts4.same s5).app (p := (i, i + t)) hu5
          refine ⟨q, _, _, rfl, rfl, hq5, small1000 (by rw [List.length_map]; omega), ?_⟩
          refine ⟨ts3 ++ [u], _, rfl, Same.none_upd (s34.trans s5) hq, ?_, ?_, hts5.other (tups_lst hq5)⟩
          · rw [upd_same, List.map_append]
            rfl
          · rw [List.length_append]
            show ts3.length + 1 ≤ _
            omega
      · rintro σ H3 ⟨ts3, v4', rfl, s3, hq3, lts3, hts3⟩
        refine ⟨ts3, _, _, rfl, s3, hq3, by omega, ?_⟩
        rw [show [i].flatMap (Ka.rowOf a.deeds.length) = (List.range' i (a.deeds.length - i)).map fun j => (i, j) from by
          rw [List.flatMap_singleton]
          rfl]
        exact hts3
    · rintro σ H2 ⟨ts, v3, v4, rfl, s2, hq2, lts, hts⟩
      rw [← Ka.pairs_is] at hts
      exact ⟨_, rfl, hQ _ q ts s2 hq hq2 hts (by omega)⟩
theorem ok_first_opening (D : Df K mg "first_opening" ["rule"] s_first_opening) (T : CT K CD) (TH : HT K CC) (N : Cn mg)
    (O_states_let : Ok P w K mg base "states_let" ["rule"] 3 (spLets))
    (O_is_let : Ok P w K mg base "is_let" ["rule", "s"] 2 (spLet))
    (O_put_together : Ok P w K mg base "put_together" ["s", "states"] 1 (spTog K)) :
    Ok P w K mg base "first_opening" ["rule"] 4 (spOpening) := by
  obtain ⟨f_states_let, fd_states_let, G_states_let, g_states_let, k_states_let, b_states_let⟩ := O_states_let
  obtain ⟨f_is_let, fd_is_let, G_is_let, g_is_let, k_is_let, b_is_let⟩ := O_is_let
  obtain ⟨f_put_together, fd_put_together, G_put_together, g_put_together, k_put_together, b_put_together⟩ := O_put_together
  refine Ok.mk D sc_first_opening (fun vs H Q E h => ?_) (fun f cdv A outer s H vs Q E hr h => ?_)
  · obtain ⟨a, rfl, _⟩ := h
    rfl
  · obtain ⟨a, rfl, hwf, hQ⟩ := h
    have hu := hu_of hr
    have hr_states_let : Room 3 _ := hr.mono (by decide)
    have hr_is_let : Room 2 _ := hr.mono (by decide)
    have hr_put_together : Room 1 _ := hr.mono (by decide)
    refine ⟨_, (pss_cons (ps_set (i := 1) sc_first_opening.nd rfl (Or.inl rfl) (pe_call G_states_let hr_states_let rfl g_states_let k_states_let b_states_let .nil pass0 (pa_cons (pv 0) pa_nil)))
        (pss_cons (ps_for PassesOwn.never rfl (pi_list (pv 1)) (pg_name (i := 2) sc_first_opening.nd rfl (Or.inl rfl)) (pss_one (ps_for PassesOwn.never rfl (pi_list (pv 1)) (pg_name (i := 3) sc_first_opening.nd rfl (Or.inl rfl)) (pss_one (ps_for PassesOwn.never rfl (pi_list (pv 1)) (pg_name (i := 4) sc_first_opening.nd rfl (Or.inl rfl)) (pss_one (ps_if (PW.pt (pw_and (pt_cmpR op_ge (pv 4) (pv 3) (nomark _)) (pw_and1 (pt_not (pt_val (pe_call G_is_let hr_is_let rfl g_is_let k_is_let b_is_let .nil pass0 (pa_cons (pv 0) (pa_cons (pe_call G_put_together hr_put_together rfl g_put_together k_put_together b_put_together .nil pass0 (pa_cons (pv 2) (pa_cons (pe_lst (pa_cons (pv 3) (pa_cons (pv 4) pa_nil))) pa_nil))) pa_nil)))))))) (pss_one (ps_ret (pe_lst (pa_cons (pv 2) (pa_cons (pv 3) (pa_cons (pv 4) pa_nil)))))) pss_nil)))))))
        (pss_one (ps_ret (pe_lst pa_nil))))), ?_⟩
    refine ⟨_, rfl, a.rule, 2 ^ a.m, rfl, hwf.r, hwf.n64, fun H1 p1 s01 hp0 hp1 => ?_⟩
    have hal : ∀ {i z : Nat}, (lets a.rule (2 ^ a.m))[i]? = some z → z < 2 ^ a.m ∧ Kh411.let_ a z = true := fun h => lets_at h
    have eop : Ka.opn a (lets a.rule (2 ^ a.m)) = (lets a.rule (2 ^ a.m)).findSome? fun s => (lets a.rule (2 ^ a.m)).findSome? fun y => ((lets a.rule (2 ^ a.m)).find? fun z => decide (y ≤ z) && !Kh411.let_ a (Kh411.together a.m s [y, z])).map fun z => [s, y, z] := rfl
    rw [eop] at hQ
    generalize lets a.rule (2 ^ a.m) = L at hp1 hal hQ
    refine ⟨_, rfl, p1, rfl, ⟨_, SqL.of hp1⟩, for_list (K := K) (a := p1) (xs := nV L) (fun i σ H' => ∃ (v2 v3 v4 : Option V), σ = [some (.int (a.rule : Int)), some (.ref p1), v2, v3, v4] ∧ Same H1 H' ∧ (L.take i).findSome? (fun s => L.findSome? fun y => (L.find? fun z => decide (y ≤ z) && !Kh411.let_ a (Kh411.together a.m s [y, z])).map fun z => [s, y, z]) = none)
      ⟨none, none, none, rfl, Same.refl H1, rfl⟩ (fun i σ H' _ ⟨_, _, _, _, s, _⟩ => SqL.of (s _ _ hp1)) ?_ ?_⟩
    · rintro i x σ H2 hi ⟨v2, v3, v4, rfl, s2, hno⟩
      obtain ⟨s0, hat, rfl⟩ := nat_at hi
      obtain ⟨hs0, _⟩ := hal hat
      refine ⟨_, rfl, p1, rfl, ⟨_, SqL.of (s2 _ _ hp1)⟩, for_list (K := K) (a := p1) (xs := nV L) (fun j σ H' => ∃ (v3 v4 : Option V), σ = [some (.int (a.rule : Int)), some (.ref p1), some (.int (s0 : Int)), v3, v4] ∧ Same H1 H' ∧ (L.take j).findSome? (fun y => (L.find? fun z => decide (y ≤ z) && !Kh411.let_ a (Kh411.together a.m s0 [y, z])).map fun z => [s0, y, z]) = none)
        ⟨_, _, rfl, s2, rfl⟩ (fun i σ H' _ ⟨_, _, _, s, _⟩ => SqL.of (s _ _ hp1)) ?_ ?_⟩
      · rintro j x σ H3 hj ⟨v3, v4, rfl, s3, hno2⟩
        obtain ⟨y, hat2, rfl⟩ := nat_at hj
        obtain ⟨hy, _⟩ := hal hat2
        refine ⟨_, rfl, p1, rfl, ⟨_, SqL.of (s3 _ _ hp1)⟩, for_list (K := K) (a := p1) (xs := nV L) (fun t σ H' => ∃ (v4 : Option V), σ = [some (.int (a.rule : Int)), some (.ref p1), some (.int (s0 : Int)), some (.int (y : Int)), v4] ∧ Same H1 H' ∧ (L.take t).find? (fun z => decide (y ≤ z) && !Kh411.let_ a (Kh411.together a.m s0 [y, z])) = none)
          ⟨_, rfl, s3, rfl⟩ (fun i σ H' _ ⟨_, _, s, _⟩ => SqL.of (s _ _ hp1)) ?_ ?_⟩
        · rintro t x σ H4 ht ⟨v4, rfl, s4, hno3⟩
          obtain ⟨z, hat3, rfl⟩ := nat_at ht
          obtain ⟨hz, _⟩ := hal hat3
          refine ⟨_, rfl, _, rfl, _, _, rfl, rfl, _, rfl, ?_⟩
          by_cases c : y ≤ z
          · rw [decide_eq_true (show (y : Int) ≤ (z : Int) by omega)]
            refine iteT ⟨_, rfl, _, rfl, _, rfl, _, rfl, two_ok, fun r hr2 => ?_⟩
            have s5 : Same H1 (upd H4 r (.lst (nV [y, z]))) := Same.none_upd s4 (s4.free hr2)
            have hr5 : (upd H4 r (.lst (nV [y, z]))) r = some (.lst (nV [y, z])) := upd_same
            refine ⟨s0, r, [y, z], rfl, SqL.of hr5, a.rule, s0 ^^^ Ka.chg s0 [y, z], rfl, _, rfl, ?_⟩
            have eh : (decide (y ≤ z) && !Kh411.let_ a (Kh411.together a.m s0 [y, z])) = !a.rule.testBit (s0 ^^^ Ka.chg s0 [y, z]) := by
              rw [decide_eq_true c, Bool.true_and, Ka.together_eq hs0 (by simp [hy, hz])]
              rw [show Kh411.let_ a (s0 ^^^ Ka.chg s0 [y, z]) = a.rule.testBit (s0 ^^^ Ka.chg s0 [y, z]) from Ka.has_tb _ _]
            cases c3 : a.rule.testBit (s0 ^^^ Ka.chg s0 [y, z]) with
            | true =>
              rw [c3] at eh
              exact iteF ⟨_, rfl, s5, find_none_take hat3 hno3 eh⟩
            | false =>
              rw [c3] at eh
              have e3 := find_some_take hat3 hno3 eh
              have e2 := fs_some_take (f := fun y => (L.find? fun z => decide (y ≤ z) && !Kh411.let_ a (Kh411.together a.m s0 [y, z])).map fun z => [s0, y, z]) hat2 hno2 (by rw [e3]; rfl)
              have e1 := fs_some_take (f := fun s => L.findSome? fun y => (L.find? fun z => decide (y ≤ z) && !Kh411.let_ a (Kh411.together a.m s [y, z])).map fun z => [s, y, z]) hat hno e2
              rw [e1] at hQ
              have s6 := s01.trans s5
              exact iteT ⟨_, rfl, _, rfl, _, rfl, (by show 3 ≤ sizeLine; decide), fun u hu2 => hQ _ u (Same.none_upd s6 (s6.free hu2)) (s6.free hu2) upd_same⟩
          · rw [decide_eq_false (show ¬ (y : Int) ≤ (z : Int) by omega)]
            refine iteF (iteF ⟨_, rfl, s4, find_none_take hat3 hno3 ?_⟩)
            rw [decide_eq_false c]
            rfl
        · rintro σ H4 ⟨v4, rfl, s4, hno3⟩
          rw [nV_len, List.take_length] at hno3
          refine ⟨_, _, rfl, s4, fs_none_take hat2 hno2 ?_⟩
          rw [hno3]
          rfl
      · rintro σ H3 ⟨v3, v4, rfl, s3, hno2⟩
        rw [nV_len, List.take_length] at hno2
        exact ⟨_, _, _, rfl, s3, fs_none_take hat hno hno2⟩
    · rintro σ H2 ⟨v2, v3, v4, rfl, s2, hno⟩
      rw [nV_len, List.take_length] at hno
      rw [hno] at hQ
      have s1 := s01.trans s2
      exact ⟨Nat.zero_le _, fun u hu2 => hQ _ u (Same.none_upd s1 (s1.free hu2)) (s1.free hu2) upd_same⟩
end
end Kp
-- KpCalls3
namespace Kp
open PySem PySem.Spec PyProof.Rows L2
open Kh411 (Deed Abs Call Ans)
theorem range_at {n i : Nat} (h : i < n) : (List.range n)[i]? = some i := by
  rw [List.getElem?_range h]

/-- begin, from any state -/
def begun (a : Abs) (m : Nat) : Abs × Ans := if m < 1 ∨ 4 < m then (a, Kh411.say (-22)) else (⟨m, 2 ^ (2 ^ m) - 1, []⟩, Kh411.say 0)
def spBegin (K : PySem.W.Frag) (CC CD : Addr) : Sp := fun vs H Q _ => ∃ (h t L : Addr) (a : Abs) (m : Nat), vs = [.ref h, .ref t] ∧ HeldAt CC CD H h L a ∧ SqL K H t (nV [m]) ∧
  ∀ H' p L', Kept H h L H' → (L' = L ∨ H L' = none) → HeldAt CC CD H' h L' (begun a m).1 → H p = none → H' p = some (.lst (ansV (begun a m).2)) → Q (.ref p) H'
section
variable {P : Program} {w : World} {K : PySem.W.Frag} {mg : Str → Option Value} {base : Heap} {CC CD : Addr}
theorem ok_answer_keeps (D : Df K mg "answer_keeps" ["held", "told"] s_answer_keeps) (T : CT K CD) (TH : HT K CC) (N : Cn mg)
    (O_yes_or_no : Ok P w K mg base "yes_or_no" ["so"] 1 (spYes))
    (O_is_count_of_copies : Ok P w K mg base "is_count_of_copies" ["k"] 1 (spK))
    (O_first_break : Ok P w K mg base "first_break" ["rule", "deeds", "k"] 6 (spBreak K CD)) :
    Ok P w K mg base "answer_keeps" ["held", "told"] 7 (spH K CC CD mkKeeps) := by
  obtain ⟨f_yes_or_no, fd_yes_or_no, G_yes_or_no, g_yes_or_no, k_yes_or_no, b_yes_or_no⟩ := O_yes_or_no
  obtain ⟨f_is_count_of_copies, fd_is_count_of_copies, G_is_count_of_copies, g_is_count_of_copies, k_is_count_of_copies, b_is_count_of_copies⟩ := O_is_count_of_copies
  obtain ⟨f_first_break, fd_first_break, G_first_break, g_first_break, k_first_break, b_first_break⟩ := O_first_break
  obtain ⟨t_NOT_AS_TOLD, c_NOT_AS_TOLD⟩ := N.NOT_AS_TOLD
  refine Ok.mk D sc_answer_keeps (fun vs H Q E h => ?_) (fun f cdv A outer s H vs Q E hr h => ?_)
  · obtain ⟨h, t, L, a, ns, c, rfl, _⟩ := h
    rfl
  · obtain ⟨h, t, L, a, ns, c, rfl, hH, hwf, ht, hmk, hQ⟩ := h
    obtain ⟨k, rfl, rfl⟩ := mk1 hmk
    obtain ⟨⟨dx, hh⟩, ds, hL, hds⟩ := id hH
    have e0 : Kh411.doesA a (.keeps k) = (a, if k < 1 ∨ 4 < k then Kh411.say (-22) else Kh411.yes (Kh411.keeps a k)) := rfl
    have hu := hu_of hr
    have hr_yes_or_no : Room 1 _ := hr.mono (by decide)
    have hr_is_count_of_copies : Room 1 _ := hr.mono (by decide)
    have hr_first_break : Room 6 _ := hr.mono (by decide)
    refine ⟨_, (pss_cons (ps_if (pt_not (pt_val (pe_call G_is_count_of_copies hr_is_count_of_copies rfl g_is_count_of_copies k_is_count_of_copies b_is_count_of_copies .nil pass0 (pa_cons (pe_ix ix_list (pv 1) pe_int (fun _ _ => rfl)) pa_nil)))) (pss_one (ps_ret (pe_lst (pa_cons (pe_glob (v := .int (-22)) rfl c_NOT_AS_TOLD ⟨_, rfl⟩) pa_nil)))) pss_nil)
        (pss_one (ps_ret (pe_call G_yes_or_no hr_yes_or_no rfl g_yes_or_no k_yes_or_no b_yes_or_no .nil pass0 (pa_cons (pe_cmpR op_eq (pe_callB call_len_seq (by rfl) N.len PySem.boot_len (pa_cons (pe_call G_first_break hr_first_break rfl g_first_break k_first_break b_first_break .nil pass0 (pa_cons (pe_fld (pv 0) rfl) (pa_cons (pe_fld (pv 0) rfl) (pa_cons (pe_ix ix_list (pv 1) pe_int (fun _ _ => rfl)) pa_nil)))) pa_nil)) pe_int (nomark _)) pa_nil))))), ?_⟩
    refine ⟨_, rfl, t, _, _, _, rfl, rfl, ht, at0, k, rfl, _, rfl, ?_⟩
    by_cases c : 1 ≤ k ∧ k ≤ 4
    · rw [decide_eq_true c]
      rw [if_neg (by omega)] at e0
      refine iteF ⟨_, rfl, h, CC, dx, _, _, rfl, hh, TH.cl, TH.rule, hF_rule _ _ _, _, rfl, h, CC, dx, _, _, rfl, hh, TH.cl, TH.deeds, hF_deeds _ _ _, _, rfl, t, _, _, _, rfl, rfl, ht, at0, a, L, k, rfl, ⟨ds, SqL.of hL, hds⟩, hwf, c.1, c.2, fun H1 p1 s1 hp0 hp1 => ?_⟩
      refine ⟨p1, _, rfl, .inl (SqL.of hp1), rfl, decide (brk a k = []), ?_, fun H2 p2 s2 hp2 h22 => ?_⟩
      · show [V.bl (decide (V.int ((nV (brk a k)).length : Int) = V.int 0))] = _
        rw [dec_int, nV_len]
        cases brk a k with
        | nil => rfl
        | cons x l =>
          show [V.bl (decide (((l.length + 1 : Nat) : Int) = 0))] = [V.bl (decide (x :: l = []))]
          rw [decide_eq_false (show ¬ (((l.length + 1 : Nat) : Int) = 0) by omega), decide_eq_false (show ¬ (x :: l = []) by intro z; cases z)]
      · refine wants_pure hQ hH (s1.trans s2) e0 ?_ (s1.free hp2) h22
        rw [Ka.keeps_broken]
        unfold brk
        cases Kh411.broken a k <;> rfl
    · rw [decide_eq_false c]
      rw [if_pos (by omega)] at e0
      exact iteT ⟨one_ok, wants_new hQ hH (Same.refl H) e0 rfl⟩
theorem ok_answer_broken (D : Df K mg "answer_broken" ["held", "told"] s_answer_broken) (T : CT K CD) (TH : HT K CC) (N : Cn mg)
    (O_first_break : Ok P w K mg base "first_break" ["rule", "deeds", "k"] 6 (spBreak K CD))
    (O_is_count_of_copies : Ok P w K mg base "is_count_of_copies" ["k"] 1 (spK)) :
    Ok P w K mg base "answer_broken" ["held", "told"] 7 (spH K CC CD mkBroken) := by
  obtain ⟨f_first_break, fd_first_break, G_first_break, g_first_break, k_first_break, b_first_break⟩ := O_first_break
  obtain ⟨f_is_count_of_copies, fd_is_count_of_copies, G_is_count_of_copies, g_is_count_of_copies, k_is_count_of_copies, b_is_count_of_copies⟩ := O_is_count_of_copies
  obtain ⟨t_NOT_AS_TOLD, c_NOT_AS_TOLD⟩ := N.NOT_AS_TOLD
  obtain ⟨t_IS_KEPT, c_IS_KEPT⟩ := N.IS_KEPT
  refine Ok.mk D sc_answer_broken (fun vs H Q E h => ?_) (fun f cdv A outer s H vs Q E hr h => ?_)
  · obtain ⟨h, t, L, a, ns, c, rfl, _⟩ := h
    rfl
  · obtain ⟨h, t, L, a, ns, c, rfl, hH, hwf, ht, hmk, hQ⟩ := h
    obtain ⟨k, rfl, rfl⟩ := mk1 hmk
    obtain ⟨⟨dx, hh⟩, ds, hL, hds⟩ := id hH
    have e0 : Kh411.doesA a (.broken k) = (a, if k < 1 ∨ 4 < k then Kh411.say (-22) else match Kh411.broken a k with
      | none => Kh411.say (-33)
      | some x => Kh411.nats x.1 (x.2 ++ [Kh411.together a.m x.1 x.2])) := rfl
    have hu := hu_of hr
    have hr_first_break : Room 6 _ := hr.mono (by decide)
    have hr_is_count_of_copies : Room 1 _ := hr.mono (by decide)
    refine ⟨_, (pss_cons (ps_if (pt_not (pt_val (pe_call G_is_count_of_copies hr_is_count_of_copies rfl g_is_count_of_copies k_is_count_of_copies b_is_count_of_copies .nil pass0 (pa_cons (pe_ix ix_list (pv 1) pe_int (fun _ _ => rfl)) pa_nil)))) (pss_one (ps_ret (pe_lst (pa_cons (pe_glob (v := .int (-22)) rfl c_NOT_AS_TOLD ⟨_, rfl⟩) pa_nil)))) pss_nil)
        (pss_cons (ps_set (i := 2) sc_answer_broken.nd rfl (Or.inl rfl) (pe_call G_first_break hr_first_break rfl g_first_break k_first_break b_first_break .nil pass0 (pa_cons (pe_fld (pv 0) rfl) (pa_cons (pe_fld (pv 0) rfl) (pa_cons (pe_ix ix_list (pv 1) pe_int (fun _ _ => rfl)) pa_nil)))))
        (pss_cons (ps_if (pt_cmpR op_eq (pe_callB call_len_seq (by rfl) N.len PySem.boot_len (pa_cons (pv 2) pa_nil)) pe_int (nomark _)) (pss_one (ps_ret (pe_lst (pa_cons (pe_glob (v := .int (-33)) rfl c_IS_KEPT ⟨_, rfl⟩) pa_nil)))) pss_nil)
        (pss_one (ps_ret (pv 2)))))), ?_⟩
    refine ⟨_, rfl, t, _, _, _, rfl, rfl, ht, at0, k, rfl, _, rfl, ?_⟩
    by_cases c : 1 ≤ k ∧ k ≤ 4
    · rw [decide_eq_true c]
      rw [if_neg (by omega)] at e0
      refine iteF ⟨_, rfl, h, CC, dx, _, _, rfl, hh, TH.cl, TH.rule, hF_rule _ _ _, _, rfl, h, CC, dx, _, _, rfl, hh, TH.cl, TH.deeds, hF_deeds _ _ _, _, rfl, t, _, _, _, rfl, rfl, ht, at0, a, L, k, rfl, ⟨ds, SqL.of hL, hds⟩, hwf, c.1, c.2, fun H1 p1 s1 hp0 hp1 => ?_⟩
      refine ⟨_, rfl, p1, _, rfl, .inl (SqL.of hp1), rfl, _, rfl, ?_⟩
      rw [dec_int, nV_len]
      unfold brk at hp1 ⊢
      cases cb : Kh411.broken a k with
      | none =>
        rw [cb] at e0
        exact iteT ⟨one_ok, wants_new hQ hH s1 e0 rfl⟩
      | some x =>
        rw [cb] at e0 hp1
        rw [decide_eq_false (by show ¬ (((x.2 ++ [Kh411.together a.m x.1 x.2]).length + 1 : Nat) : Int) = 0; omega)]
        refine iteF ⟨_, rfl, wants_pure hQ hH s1 e0 ?_ hp0 hp1⟩
        rw [ansV_nats]
        rfl
    · rw [decide_eq_false c]
      rw [if_pos (by omega)] at e0
      exact iteT ⟨one_ok, wants_new hQ hH (Same.refl H) e0 rfl⟩
theorem ok_answer_begin (D : Df K mg "answer_begin" ["held", "told"] s_answer_begin) (T : CT K CD) (TH : HT K CC) (N : Cn mg)
    (O_all_states : Ok P w K mg base "all_states" ["facts"] 2 (spAll)) :
    Ok P w K mg base "answer_begin" ["held", "told"] 3 (spBegin K CC CD) := by
  obtain ⟨f_all_states, fd_all_states, G_all_states, g_all_states, k_all_states, b_all_states⟩ := O_all_states
  obtain ⟨t_MOST_FACTS, c_MOST_FACTS⟩ := N.MOST_FACTS
  obtain ⟨t_NOT_AS_TOLD, c_NOT_AS_TOLD⟩ := N.NOT_AS_TOLD
  refine Ok.mk D sc_answer_begin (fun vs H Q E h => ?_) (fun f cdv A outer s H vs Q E hr h => ?_)
  · obtain ⟨h, t, L, a, m, rfl, _⟩ := h
    rfl
  · obtain ⟨h, t, L, a, m, rfl, hH, ht, hQ⟩ := h
    obtain ⟨⟨dx, hh⟩, ds, hL, hds⟩ := id hH
    have hu := hu_of hr
    have hr_all_states : Room 2 _ := hr.mono (by decide)
    refine ⟨_, (pss_cons (ps_set (i := 2) sc_answer_begin.nd rfl (Or.inl rfl) (pe_ix ix_list (pv 1) pe_int (fun _ _ => rfl)))
        (pss_cons (ps_if (PW.pt (pw_or (pt_cmpR op_lt (pv 2) pe_int (nomark _)) (pw_or1 (pt_cmpR op_gt (pv 2) (pe_glob (v := .int 4) rfl c_MOST_FACTS ⟨_, rfl⟩) (nomark _))))) (pss_one (ps_ret (pe_lst (pa_cons (pe_glob (v := .int (-22)) rfl c_NOT_AS_TOLD ⟨_, rfl⟩) pa_nil)))) pss_nil)
        (pss_cons (ps_fld (pv 0) (pv 2) rfl)
        (pss_cons (ps_fld (pv 0) (pe_call G_all_states hr_all_states rfl g_all_states k_all_states b_all_states .nil pass0 (pa_cons (pv 2) pa_nil)) rfl)
        (pss_cons (ps_fld (pv 0) (pe_lst pa_nil) rfl)
        (pss_one (ps_ret (pe_lst (pa_cons pe_int pa_nil))))))))), ?_⟩
    refine ⟨_, rfl, t, _, _, _, rfl, rfl, ht, at0, ?_⟩
    refine ⟨_, rfl, _, _, rfl, rfl, _, rfl, ?_⟩
    by_cases c : m < 1 ∨ 4 < m
    · have e0 : begun a m = (a, Kh411.say (-22)) := if_pos c
      rw [e0] at hQ
      have fin : ∀ p, H p = none → Q (.ref p) (upd H p (.lst [V.int (-22)])) := fun p hp => hQ _ p L (Kept.new hp) (.inl rfl) (hH.same (Same.new hp)) hp upd_same
      by_cases c1 : m < 1
      · rw [decide_eq_true (show (m : Int) < 1 by omega)]
        exact iteT (iteT ⟨one_ok, fin⟩)
      · rw [decide_eq_false (show ¬ (m : Int) < 1 by omega)]
        refine iteF ⟨_, rfl, _, _, rfl, rfl, _, rfl, ?_⟩
        rw [decide_eq_true (show (4 : Int) < (m : Int) by omega)]
        exact iteT ⟨one_ok, fin⟩
    · have e0 : begun a m = (⟨m, 2 ^ (2 ^ m) - 1, []⟩, Kh411.say 0) := if_neg c
      rw [e0] at hQ
      rw [decide_eq_false (show ¬ (m : Int) < 1 by omega)]
      refine iteF ⟨_, rfl, _, _, rfl, rfl, _, rfl, ?_⟩
      rw [decide_eq_false (show ¬ (4 : Int) < (m : Int) by omega)]
      refine iteF ⟨_, rfl, _, rfl, h, CC, dx, _, rfl, hh, TH.cl, TH.facts, (by show 3 < 1000; decide), ?_⟩
      rw [hF_pfacts]
      refine ⟨_, rfl, m, rfl, by omega, _, rfl, h, CC, dx, _, rfl, upd_same, TH.cl, TH.rule, (by show 3 < 1000; decide), ?_⟩
      rw [hF_prule]
      refine ⟨Nat.zero_le _, fun l hl => ?_⟩
      have hl0 : H l = none := upd_none (upd_none hl)
      have nhl : h ≠ l := ne_of_none hh hl0
      refine ⟨_, rfl, h, CC, dx, _, rfl, (upd_ne nhl).trans upd_same, TH.cl, TH.deeds, (by show 3 < 1000; decide), ?_⟩
      rw [hF_pdeeds]
      refine ⟨one_ok, fun p hp => ?_⟩
      have hpl : p ≠ l := fun z => by
        rw [z] at hp
        have := upd_none hp
        rw [upd_same] at this
        cases this
      have hp0 : H p = none := upd_none (upd_none (upd_none (upd_none hp)))
      have nhp : h ≠ p := ne_of_none hh hp0
      refine hQ _ p l ?_ (.inr hl0) ⟨⟨dx, ?_⟩, [], ?_, trivial⟩ hp0 upd_same
      · intro b o e n1 n2
        have nbl : b ≠ l := ne_of_none e hl0
        have nbp : b ≠ p := ne_of_none e hp0
        rw [upd_ne nbp, upd_ne n1, upd_ne nbl, upd_ne n1, upd_ne n1]
        exact e
      · rw [upd_ne nhp, upd_same]
      · rw [upd_ne hpl.symm, upd_ne nhl.symm, upd_same]
        rfl
end
end Kp
-- KpCalls4
namespace Kp
open PySem PySem.Spec PyProof.Rows L2
open Kh411 (Deed Abs Call Ans)
open Ka (lets)
/-! ### xs.extend(t), t a tuple -/
open PySem.AutoSeq1 in
theorem extend_tup (l : Addr) (its : Array Value) (n : Nat) (b : Addr) (dd : Option Addr) (sl : Array (Option Value)) (jts : Array Value) (k : Nat)
    (h0 : ¬(!its.isEmpty && Builtin.List.listTooLong (its.size + jts.size)) = true) (h1 : its.size ≤ sizeLine) (h2 : its.size + jts.size ≤ sizeLine + 1) :
    Meets (Builtin.«list.extend» ⟨[.ref l, .ref b], []⟩) (fun _ R s => s.heap.get? l = some { cls := .type "list", dict := none, data := .seq its n, slots := #[] } ∧
      s.heap.get? b = some { cls := .type "tuple", dict := dd, data := .seq jts k, slots := sl } ∧ R (.ok (.ret Value.none)) { s with heap := s.heap.update l (Obj.mapSeq fun x => x ++ jts), toks := s.toks }) := by
  refine Meets.of_wp (fun prg wd ar R st hst => ?_)
  rcases st with ⟨hp, gs, dr, tk, os⟩
  rcases hst with ⟨hl, hb, h⟩
  have f1 := PySem.AutoSeq1.idx_int
  have f2 := PySem.AutoSeq1.sub_tuple_tuple
  have f3 := PySem.AutoSeq1.sub_list_list
  have f4 := PySem.AutoSeq1.sub_tuple_list
  have f5 := PySem.AutoSeq1.sub_list_tuple
  have hz' : (its ++ jts).size ≤ sizeLine + 1 := Array.size_append ▸ h2
  wp_walk using (wpAny_updateSeq hl rfl (hz := h1) (_hz' := hz')), wpAny_loadPart' hl, wpAny_loadPart' hb
  exact ⟨_, rfl, h⟩
def rExtendT : V → List V → Hp → VK → Prop := fun x vs H Q => ∃ l b xs zs, x = .ref l ∧ vs = [.ref b] ∧ H l = some (.lst xs) ∧ H b = some (.tup zs) ∧ xs.length + zs.length ≤ sizeLine ∧ Q .non (upd H l (.lst (xs ++ zs)))
theorem mt_extendT {X : Cx} : MtM X "list.extend" rExtendT := by
  intro pn st sl Hp xv avs rv rus Qv Iv hxv havs hyp
  rcases hyp with ⟨l, b, xs, zs, rfl, rfl, hLst, hTup, hfits, hnext⟩
  cases hxv
  obtain ⟨ub, rfl, hub⟩ := havs.one
  cases hub
  obtain ⟨zl, its, nl, vl, lenl, atl⟩ := Iv.lstM hLst
  obtain ⟨zt, jts, vt, ⟨oc, od, oda, osl⟩, att, hcl, k, hdat⟩ := Iv.hok b _ hTup
  have hcl' : oc = .type "tuple" := hcl
  have hdat' : oda = .seq jts.toArray k := hdat
  subst hcl' hdat'
  have lent : zs.length = jts.length := vt.length
  have hsum : its.toArray.size + jts.toArray.size ≤ sizeLine := by
    simp only [List.size_toArray]
    omega
  have hshort : ¬ (!its.toArray.isEmpty && Builtin.List.listTooLong (its.toArray.size + jts.toArray.size)) = true := by
    intro hc
    rw [notLongL hsum, Bool.and_false] at hc
    cases hc
  have hone : its.toArray.size ≤ sizeLine := Nat.le_trans (Nat.le_add_right _ _) hsum
  refine call_meets F.slot_list_extend ⟨_, atl, rfl⟩ F.entry_list_extend (F.args_list_extend_2 _ _) (extend_tup l its.toArray nl b od osl jts.toArray k hshort hone (Nat.le_succ_of_le hsum)) ⟨atl, att, ?_⟩
  refine ⟨.non, _, Iv.lset (its' := its ++ jts) hLst atl (by simp) (vl.append vt) ?_, rfl, hnext⟩
  simp only [List.length_append]
  exact hfits
/-! ### the calls of the second stage -/
def mk0 (c : Call) : List Nat → Option Call | [] => some c | _ => none
def mkBrokenAt : List Nat → Option Call | [k, s] => some (.brokenAt k s) | _ => none
def mkClash : List Nat → Option Call | [i, j] => some (.clash i j) | _ => none
def mkFree : List Nat → Option Call | [x] => some (.free x) | _ => none
def mkAlone : List Nat → Option Call | [i] => some (.alone i) | _ => none
theorem mk0_of {c c' : Call} {ns : List Nat} (h : mk0 c ns = some c') : ns = [] ∧ c' = c := by
  match ns, h with
  | [], h => exact ⟨rfl, (Option.some.inj h).symm⟩
theorem flat2_len : ∀ l : List (Nat × Nat), (l.flatMap fun p => [p.1, p.2]).length = 2 * l.length
  | [] => rfl
  | p :: l => by
    have ih := flat2_len l
    rw [List.flatMap_cons, List.length_append, ih]
    show 2 + 2 * l.length = 2 * Nat.succ l.length
    omega
theorem opn_form {a : Abs} {L l : List Nat} (h : Ka.opn a L = some l) : ∃ x r, l = x :: r := by
  unfold Ka.opn at h
  obtain ⟨s, _, h⟩ := List.exists_of_findSome?_eq_some h
  obtain ⟨y, _, h⟩ := List.exists_of_findSome?_eq_some h
  rw [Option.map_eq_some_iff] at h
  obtain ⟨z, _, h⟩ := h
  exact ⟨s, [y, z], h.symm⟩
theorem len_zero (l : List Nat) : decide (((l.length : Nat) : Int) = 0) = decide (l = []) := by
  cases l with
  | nil => rfl
  | cons x l => rw [decide_eq_false (show ¬ (((x :: l).length : Nat) : Int) = 0 by rw [List.length_cons]; omega), decide_eq_false (show ¬ (x :: l = []) by intro z; cases z)]
section
variable {P : Program} {w : World} {K : PySem.W.Frag} {mg : Str → Option Value} {base : Heap} {CC CD : Addr}
theorem ok_answer_fewest (D : Df K mg "answer_fewest" ["held", "told"] s_answer_fewest) (T : CT K CD) (TH : HT K CC) (N : Cn mg)
    (O_fewest_that_break : Ok P w K mg base "fewest_that_break" ["facts", "rule", "deeds"] 7 (spFewest K CD)) :
    Ok P w K mg base "answer_fewest" ["held", "told"] 8 (spH K CC CD (mk0 .fewest)) := by
  obtain ⟨f_fewest_that_break, fd_fewest_that_break, G_fewest_that_break, g_fewest_that_break, k_fewest_that_break, b_fewest_that_break⟩ := O_fewest_that_break
  obtain ⟨t_IS_KEPT, c_IS_KEPT⟩ := N.IS_KEPT
  refine Ok.mk D sc_answer_fewest (fun vs H Q E h => ?_) (fun f cdv A outer s H vs Q E hr h => ?_)
  · obtain ⟨h, t, L, a, ns, c, rfl, _⟩ := h
    rfl
  · obtain ⟨h, t, L, a, ns, c, rfl, hH, hwf, ht, hmk, hQ⟩ := h
    obtain ⟨rfl, rfl⟩ := mk0_of hmk
    obtain ⟨⟨dx, hh⟩, ds, hL, hds⟩ := id hH
    have e0 : Kh411.doesA a .fewest = (a, match Ka.fewestOf a with | none => Kh411.say (-33) | some k => Kh411.say k) := rfl
    have hu := hu_of hr
    have hr_fewest_that_break : Room 7 _ := hr.mono (by decide)
    refine ⟨_, (pss_cons (ps_set (i := 2) sc_answer_fewest.nd rfl (Or.inl rfl) (pe_call G_fewest_that_break hr_fewest_that_break rfl g_fewest_that_break k_fewest_that_break b_fewest_that_break .nil pass0 (pa_cons (pe_fld (pv 0) rfl) (pa_cons (pe_fld (pv 0) rfl) (pa_cons (pe_fld (pv 0) rfl) pa_nil)))))
        (pss_cons (ps_if (pt_cmpR op_eq (pv 2) pe_int (nomark _)) (pss_one (ps_ret (pe_lst (pa_cons (pe_glob (v := .int (-33)) rfl c_IS_KEPT ⟨_, rfl⟩) pa_nil)))) pss_nil)
        (pss_one (ps_ret (pe_lst (pa_cons (pv 2) pa_nil)))))), ?_⟩
    refine ⟨_, rfl, h, CC, dx, _, _, rfl, hh, TH.cl, TH.facts, hF_facts _ _ _, _, rfl, h, CC, dx, _, _, rfl, hh, TH.cl, TH.rule, hF_rule _ _ _, _, rfl, h, CC, dx, _, _, rfl, hh, TH.cl, TH.deeds, hF_deeds _ _ _, a, L, rfl, ⟨ds, SqL.of hL, hds⟩, hwf, fun H1 s1 => ?_⟩
    refine ⟨_, rfl, rfl, _, rfl, ?_⟩
    rw [dec_int]
    cases c : Ka.fewestOf a with
    | none =>
      rw [c] at e0
      exact iteT ⟨one_ok, wants_new hQ hH s1 e0 rfl⟩
    | some k =>
      rw [c] at e0
      have := (Ka.fewest_some c).1
      rw [decide_eq_false (show ¬ (((some k).getD 0 : Nat) : Int) = 0 by show ¬ ((k : Nat) : Int) = 0; omega)]
      exact iteF ⟨_, rfl, one_ok, wants_new hQ hH s1 e0 rfl⟩
theorem ok_answer_broken_at (D : Df K mg "answer_broken_at" ["held", "told"] s_answer_broken_at) (T : CT K CD) (TH : HT K CC) (N : Cn mg)
    (O_first_breaking_row : Ok P w K mg base "first_breaking_row" ["rule", "deeds", "s", "k"] 5 (spBad K CD))
    (O_is_count_of_copies : Ok P w K mg base "is_count_of_copies" ["k"] 1 (spK))
    (O_is_state : Ok P w K mg base "is_state" ["held", "s"] 3 (spIsS CC CD))
    (O_is_let : Ok P w K mg base "is_let" ["rule", "s"] 2 (spLet))
    (O_put_together : Ok P w K mg base "put_together" ["s", "states"] 1 (spTog K)) :
    Ok P w K mg base "answer_broken_at" ["held", "told"] 6 (spH K CC CD mkBrokenAt) := by
  obtain ⟨f_first_breaking_row, fd_first_breaking_row, G_first_breaking_row, g_first_breaking_row, k_first_breaking_row, b_first_breaking_row⟩ := O_first_breaking_row
  obtain ⟨f_is_count_of_copies, fd_is_count_of_copies, G_is_count_of_copies, g_is_count_of_copies, k_is_count_of_copies, b_is_count_of_copies⟩ := O_is_count_of_copies
  obtain ⟨f_is_state, fd_is_state, G_is_state, g_is_state, k_is_state, b_is_state⟩ := O_is_state
  obtain ⟨f_is_let, fd_is_let, G_is_let, g_is_let, k_is_let, b_is_let⟩ := O_is_let
  obtain ⟨f_put_together, fd_put_together, G_put_together, g_put_together, k_put_together, b_put_together⟩ := O_put_together
  obtain ⟨t_NOT_AS_TOLD, c_NOT_AS_TOLD⟩ := N.NOT_AS_TOLD
  obtain ⟨t_BEGINS_NOT_LET, c_BEGINS_NOT_LET⟩ := N.BEGINS_NOT_LET
  obtain ⟨t_IS_KEPT, c_IS_KEPT⟩ := N.IS_KEPT
  refine Ok.mk D sc_answer_broken_at (fun vs H Q E h => ?_) (fun f cdv A outer s H vs Q E hr h => ?_)
  · obtain ⟨h, t, L, a, ns, c, rfl, _⟩ := h
    rfl
  · obtain ⟨h, t, L, a, ns, c, rfl, hH, hwf, ht, hmk, hQ⟩ := h
    obtain ⟨k, z, rfl, rfl⟩ := mk2 hmk
    obtain ⟨⟨dx, hh⟩, ds, hL, hds⟩ := id hH
    have e0 : Kh411.doesA a (.brokenAt k z) = (a, if k < 1 ∨ 4 < k then Kh411.say (-22) else if Kh411.isS a z = false then Kh411.say (-22) else if Kh411.let_ a z = false then Kh411.say (-6) else match Kh411.brokenAt a k z with
      | none => Kh411.say (-33)
      | some l => Kh411.nats (Kh411.together a.m z l) l) := rfl
    have hu := hu_of hr
    have hr_first_breaking_row : Room 5 _ := hr.mono (by decide)
    have hr_is_count_of_copies : Room 1 _ := hr.mono (by decide)
    have hr_is_state : Room 3 _ := hr.mono (by decide)
    have hr_is_let : Room 2 _ := hr.mono (by decide)
    have hr_put_together : Room 1 _ := hr.mono (by decide)
    refine ⟨_, (pss_cons (ps_set (i := 2) sc_answer_broken_at.nd rfl (Or.inl rfl) (pe_ix ix_list (pv 1) pe_int (fun _ _ => rfl)))
        (pss_cons (ps_set (i := 3) sc_answer_broken_at.nd rfl (Or.inl rfl) (pe_ix ix_list (pv 1) pe_int (fun _ _ => rfl)))
        (pss_cons (ps_if (pt_not (pt_val (pe_call G_is_count_of_copies hr_is_count_of_copies rfl g_is_count_of_copies k_is_count_of_copies b_is_count_of_copies .nil pass0 (pa_cons (pv 2) pa_nil)))) (pss_one (ps_ret (pe_lst (pa_cons (pe_glob (v := .int (-22)) rfl c_NOT_AS_TOLD ⟨_, rfl⟩) pa_nil)))) pss_nil)
        (pss_cons (ps_if (pt_not (pt_val (pe_call G_is_state hr_is_state rfl g_is_state k_is_state b_is_state .nil pass0 (pa_cons (pv 0) (pa_cons (pv 3) pa_nil))))) (pss_one (ps_ret (pe_lst (pa_cons (pe_glob (v := .int (-22)) rfl c_NOT_AS_TOLD ⟨_, rfl⟩) pa_nil)))) pss_nil)
        (pss_cons (ps_if (pt_not (pt_val (pe_call G_is_let hr_is_let rfl g_is_let k_is_let b_is_let .nil pass0 (pa_cons (pe_fld (pv 0) rfl) (pa_cons (pv 3) pa_nil))))) (pss_one (ps_ret (pe_lst (pa_cons (pe_glob (v := .int (-6)) rfl c_BEGINS_NOT_LET ⟨_, rfl⟩) pa_nil)))) pss_nil)
        (pss_cons (ps_set (i := 4) sc_answer_broken_at.nd rfl (Or.inl rfl) (pe_call G_first_breaking_row hr_first_breaking_row rfl g_first_breaking_row k_first_breaking_row b_first_breaking_row .nil pass0 (pa_cons (pe_fld (pv 0) rfl) (pa_cons (pe_fld (pv 0) rfl) (pa_cons (pv 3) (pa_cons (pv 2) pa_nil))))))
        (pss_cons (ps_if (pt_cmpR op_eq (pe_callB call_len_seq (by rfl) N.len PySem.boot_len (pa_cons (pv 4) pa_nil)) pe_int (nomark _)) (pss_one (ps_ret (pe_lst (pa_cons (pe_glob (v := .int (-33)) rfl c_IS_KEPT ⟨_, rfl⟩) pa_nil)))) pss_nil)
        (pss_one (ps_ret (pe_op op_cat (pe_lst (pa_cons (pe_call G_put_together hr_put_together rfl g_put_together k_put_together b_put_together .nil pass0 (pa_cons (pv 3) (pa_cons (pv 4) pa_nil))) pa_nil)) (pv 4))))))))))), ?_⟩
    refine ⟨_, rfl, t, _, _, _, rfl, rfl, ht, at0, ?_⟩
    refine ⟨_, rfl, t, _, _, _, rfl, rfl, ht, at1, ?_⟩
    refine ⟨_, rfl, k, rfl, _, rfl, ?_⟩
    by_cases c : 1 ≤ k ∧ k ≤ 4
    · rw [decide_eq_true c]
      rw [if_neg (by omega)] at e0
      refine iteF ⟨_, rfl, _, rfl, h, L, a, z, rfl, hH, hwf.m4, _, rfl, ?_⟩
      by_cases cs : z < 2 ^ a.m
      · rw [decide_eq_true cs]
        rw [isS_t cs, if_neg (by decide)] at e0
        refine iteF ⟨_, rfl, h, CC, dx, _, _, rfl, hh, TH.cl, TH.rule, hF_rule _ _ _, _, rfl, a.rule, z, rfl, _, rfl, ?_⟩
        have el : Kh411.let_ a z = a.rule.testBit z := Ka.has_tb _ _
        rw [← el]
        cases cl : Kh411.let_ a z with
        | false =>
          rw [cl, if_pos rfl] at e0
          exact iteT ⟨one_ok, wants_new hQ hH (Same.refl H) e0 rfl⟩
        | true =>
          rw [cl, if_neg (by decide)] at e0
          refine iteF ⟨_, rfl, h, CC, dx, _, _, rfl, hh, TH.cl, TH.rule, hF_rule _ _ _, _, rfl, h, CC, dx, _, _, rfl, hh, TH.cl, TH.deeds, hF_deeds _ _ _, _, rfl, _, rfl, a, L, ds, z, k, rfl, SqL.of hL, hds, hwf.m4, hwf.ok, cs, c.2, fun H1 p1 s1 hp0 hp1 => ?_⟩
          rw [← Ka.firstBad_is (k := k) cs cl] at hp1
          refine ⟨_, rfl, p1, _, rfl, .inl (SqL.of hp1), rfl, _, rfl, ?_⟩
          rw [dec_int, nV_len]
          cases cb : Kh411.brokenAt a k z with
          | none =>
            rw [cb] at e0
            exact iteT ⟨one_ok, wants_new hQ hH s1 e0 rfl⟩
          | some r =>
            rw [cb] at e0 hp1
            have hp1' : H1 p1 = some (.lst (nV r)) := hp1
            have hlen := Ka.brokenAt_len cs cb
            have hri := ((Ka.brokenAt_some cs r).mp cb).2.tup
            show if decide (((r.length : Nat) : Int) = 0) = true then _ else _
            rw [decide_eq_false (show ¬ ((r.length : Nat) : Int) = 0 by omega)]
            refine iteF ⟨_, rfl, _, rfl, z, p1, r, rfl, SqL.of hp1', one_ok, fun p2 hp2 => ?_⟩
            have n12 : p1 ≠ p2 := ne_of_none hp1' hp2
            refine ⟨_, rfl, p2, p1, _, _, rfl, rfl, upd_same, (upd_ne n12).trans hp1', ?_, ?_⟩
            · rw [nV_len]
              show 1 + _ ≤ sizeLine
              exact Nat.le_of_lt (small1000 (by omega))
            · refine wants_new hQ hH (Same.none_upd s1 (s1.free hp2)) e0 ?_
              rw [ansV_nats, Ka.together_eq cs fun y hy => Ka.reach_lt cs (hri.mem y hy)]
              rfl
      · rw [decide_eq_false cs]
        rw [isS_f cs, if_pos rfl] at e0
        exact iteT ⟨one_ok, wants_new hQ hH (Same.refl H) e0 rfl⟩
    · rw [decide_eq_false c]
      rw [if_pos (by omega)] at e0
      exact iteT ⟨one_ok, wants_new hQ hH (Same.refl H) e0 rfl⟩
theorem ok_answer_clash (D : Df K mg "answer_clash" ["held", "told"] s_answer_clash) (T : CT K CD) (TH : HT K CC) (N : Cn mg)
    (O_first_clash : Ok P w K mg base "first_clash" ["rule", "one", "other"] 4 (spClash CD))
    (O_has_deed : Ok P w K mg base "has_deed" ["held", "i"] 1 (spHas CC CD)) :
    Ok P w K mg base "answer_clash" ["held", "told"] 5 (spH K CC CD mkClash) := by
  obtain ⟨f_first_clash, fd_first_clash, G_first_clash, g_first_clash, k_first_clash, b_first_clash⟩ := O_first_clash
  obtain ⟨f_has_deed, fd_has_deed, G_has_deed, g_has_deed, k_has_deed, b_has_deed⟩ := O_has_deed
  obtain ⟨t_NO_SUCH_DEED, c_NO_SUCH_DEED⟩ := N.NO_SUCH_DEED
  obtain ⟨t_NO_CLASH, c_NO_CLASH⟩ := N.NO_CLASH
  refine Ok.mk D sc_answer_clash (fun vs H Q E h => ?_) (fun f cdv A outer s H vs Q E hr h => ?_)
  · obtain ⟨h, t, L, a, ns, c, rfl, _⟩ := h
    rfl
  · obtain ⟨h, t, L, a, ns, c, rfl, hH, hwf, ht, hmk, hQ⟩ := h
    obtain ⟨i, j, rfl, rfl⟩ := mk2 hmk
    obtain ⟨⟨dx, hh⟩, ds, hL, hds⟩ := id hH
    have hn := hds.len
    have e0 : Kh411.doesA a (.clash i j) = (a, match a.deeds[i]?, a.deeds[j]? with
      | some d, some e => (match Kh411.clash a d e with
        | none => Kh411.say (-33)
        | some s => Kh411.say s)
      | _, _ => Kh411.say (-2)) := rfl
    have hu := hu_of hr
    have hr_first_clash : Room 4 _ := hr.mono (by decide)
    have hr_has_deed : Room 1 _ := hr.mono (by decide)
    refine ⟨_, (pss_cons (ps_if (PW.pt (pw_or (pt_not (pt_val (pe_call G_has_deed hr_has_deed rfl g_has_deed k_has_deed b_has_deed .nil pass0 (pa_cons (pv 0) (pa_cons (pe_ix ix_list (pv 1) pe_int (fun _ _ => rfl)) pa_nil))))) (pw_or1 (pt_not (pt_val (pe_call G_has_deed hr_has_deed rfl g_has_deed k_has_deed b_has_deed .nil pass0 (pa_cons (pv 0) (pa_cons (pe_ix ix_list (pv 1) pe_int (fun _ _ => rfl)) pa_nil)))))))) (pss_one (ps_ret (pe_lst (pa_cons (pe_glob (v := .int (-2)) rfl c_NO_SUCH_DEED ⟨_, rfl⟩) pa_nil)))) pss_nil)
        (pss_cons (ps_set (i := 2) sc_answer_clash.nd rfl (Or.inl rfl) (pe_call G_first_clash hr_first_clash rfl g_first_clash k_first_clash b_first_clash .nil pass0 (pa_cons (pe_fld (pv 0) rfl) (pa_cons (pe_ix ix_list (pe_fld (pv 0) rfl) (pe_ix ix_list (pv 1) pe_int (fun _ _ => rfl)) (fun _ _ => rfl)) (pa_cons (pe_ix ix_list (pe_fld (pv 0) rfl) (pe_ix ix_list (pv 1) pe_int (fun _ _ => rfl)) (fun _ _ => rfl)) pa_nil)))))
        (pss_cons (ps_if (pt_cmpR op_eq (pe_callB call_len_seq (by rfl) N.len PySem.boot_len (pa_cons (pv 2) pa_nil)) pe_int (nomark _)) (pss_one (ps_ret (pe_lst (pa_cons (pe_glob (v := .int (-33)) rfl c_NO_CLASH ⟨_, rfl⟩) pa_nil)))) pss_nil)
        (pss_one (ps_ret (pv 2)))))), ?_⟩
    refine ⟨_, rfl, _, rfl, t, _, _, _, rfl, rfl, ht, at0, h, L, a, i, rfl, hH, _, rfl, ?_⟩
    by_cases c : i < a.deeds.length
    · rw [decide_eq_true c]
      have hi : i < ds.length := by omega
      obtain ⟨d, hd, hD⟩ := hds.get (List.getElem?_eq_getElem hi)
      rw [hd] at e0
      refine iteF ⟨_, rfl, _, rfl, t, _, _, _, rfl, rfl, ht, at1, h, L, a, j, rfl, hH, _, rfl, ?_⟩
      by_cases c2 : j < a.deeds.length
      · rw [decide_eq_true c2]
        have hj : j < ds.length := by omega
        obtain ⟨e, he, hE⟩ := hds.get (List.getElem?_eq_getElem hj)
        rw [he] at e0
        refine iteF ⟨_, rfl, h, CC, dx, _, _, rfl, hh, TH.cl, TH.rule, hF_rule _ _ _, _, rfl, h, CC, dx, _, _, rfl, hh, TH.cl, TH.deeds, hF_deeds _ _ _, _, rfl, t, _, _, _, rfl, rfl, ht, at0, L, _, _, V.ref ds[i], rfl, rfl, SqL.of hL, atI_nat (j := i) (by rw [List.getElem?_map, List.getElem?_eq_getElem hi]; rfl), ?_⟩
        refine ⟨_, rfl, h, CC, dx, _, _, rfl, hh, TH.cl, TH.deeds, hF_deeds _ _ _, _, rfl, t, _, _, _, rfl, rfl, ht, at1, L, _, _, V.ref ds[j], rfl, rfl, SqL.of hL, atI_nat (j := j) (by rw [List.getElem?_map, List.getElem?_eq_getElem hj]; rfl), ?_⟩
        refine ⟨a, ds[i], ds[j], d, e, rfl, hD, hE, hwf, hwf.ok d (List.mem_of_getElem? hd), hwf.ok e (List.mem_of_getElem? he), fun H1 r s1 hr0 hr1 => ?_⟩
        refine ⟨_, rfl, r, _, rfl, .inl (SqL.of hr1), rfl, _, rfl, ?_⟩
        rw [dec_int, nV_len]
        cases cc : Kh411.clash a d e with
        | none =>
          have e1 : Kh411.doesA a (.clash i j) = (a, Kh411.say (-33)) := by
            rw [e0]
            show (a, match Kh411.clash a d e with | none => _ | some s => _) = _
            rw [cc]
          exact iteT ⟨one_ok, wants_new hQ hH s1 e1 rfl⟩
        | some x =>
          have e1 : Kh411.doesA a (.clash i j) = (a, Kh411.say (x : Nat)) := by
            rw [e0]
            show (a, match Kh411.clash a d e with | none => _ | some s => _) = _
            rw [cc]
          rw [cc] at hr1
          exact iteF ⟨_, rfl, wants_pure hQ hH s1 e1 rfl hr0 hr1⟩
      · rw [decide_eq_false c2]
        rw [List.getElem?_eq_none (by omega)] at e0
        exact iteT ⟨one_ok, wants_new hQ hH (Same.refl H) e0 rfl⟩
    · rw [decide_eq_false c]
      rw [List.getElem?_eq_none (by omega)] at e0
      exact iteT (iteT ⟨one_ok, wants_new hQ hH (Same.refl H) e0 rfl⟩)
theorem ok_answer_clashes (D : Df K mg "answer_clashes" ["held", "told"] s_answer_clashes) (T : CT K CD) (TH : HT K CC) (N : Cn mg)
    (O_twos_that_clash : Ok P w K mg base "twos_that_clash" ["rule", "deeds"] 5 (spTwos K CD)) :
    Ok P w K mg base "answer_clashes" ["held", "told"] 6 (spH K CC CD (mk0 .clashes)) := by
  obtain ⟨f_twos_that_clash, fd_twos_that_clash, G_twos_that_clash, g_twos_that_clash, k_twos_that_clash, b_twos_that_clash⟩ := O_twos_that_clash
  refine Ok.mk D sc_answer_clashes (fun vs H Q E h => ?_) (fun f cdv A outer s H vs Q E hr h => ?_)
  · obtain ⟨h, t, L, a, ns, c, rfl, _⟩ := h
    rfl
  · obtain ⟨h, t, L, a, ns, c, rfl, hH, hwf, ht, hmk, hQ⟩ := h
    obtain ⟨rfl, rfl⟩ := mk0_of hmk
    obtain ⟨⟨dx, hh⟩, ds, hL, hds⟩ := id hH
    have e0 : Kh411.doesA a .clashes = (a, Kh411.nats (twos a).length ((twos a).flatMap fun p => [p.1, p.2])) := rfl
    have hu := hu_of hr
    have hr_twos_that_clash : Room 5 _ := hr.mono (by decide)
    refine ⟨_, (pss_cons (ps_set (i := 2) sc_answer_clashes.nd rfl (Or.inl rfl) (pe_call G_twos_that_clash hr_twos_that_clash rfl g_twos_that_clash k_twos_that_clash b_twos_that_clash .nil pass0 (pa_cons (pe_fld (pv 0) rfl) (pa_cons (pe_fld (pv 0) rfl) pa_nil))))
        (pss_cons (ps_set (i := 3) sc_answer_clashes.nd rfl (Or.inl rfl) (pe_lst (pa_cons (pe_callB call_len_seq (by rfl) N.len PySem.boot_len (pa_cons (pv 2) pa_nil)) pa_nil)))
        (pss_cons (ps_for PassesOwn.never rfl (pi_list (pv 2)) (pg_name (i := 4) sc_answer_clashes.nd rfl (Or.inl rfl)) (pss_one (ps_expr (pe_bm PySem.F.plainAttrs_list PySem.F.slot_list_extend PySem.F.type_list_extend mt_extendT (pv 3) (pa_cons (pv 4) pa_nil)))))
        (pss_one (ps_ret (pv 3)))))), ?_⟩
    refine ⟨_, rfl, h, CC, dx, _, _, rfl, hh, TH.cl, TH.rule, hF_rule _ _ _, _, rfl, h, CC, dx, _, _, rfl, hh, TH.cl, TH.deeds, hF_deeds _ _ _, a, L, rfl, ⟨ds, SqL.of hL, hds⟩, hwf, fun H1 p1 ts s1 hp0 hp1 hts lts => ?_⟩
    have hlt := hts.len
    refine ⟨_, rfl, p1, _, rfl, .inl (SqL.of hp1), one_ok, fun q hq => ?_⟩
    rw [List.length_map, hlt]
    have s2 : Same H1 (upd H1 q (.lst [V.int ((twos a).length : Nat)])) := Same.new hq
    have hq2 : (upd H1 q (.lst [V.int ((twos a).length : Nat)])) q = some (.lst (V.int ((twos a).length : Nat) :: nV [])) := upd_same
    generalize upd H1 q (.lst [V.int ((twos a).length : Nat)]) = H2 at s2 hq2 ⊢
    refine ⟨_, rfl, p1, rfl, ⟨_, SqL.of (s2 _ _ hp1)⟩, for_list (K := K) (a := p1) (xs := ts.map V.ref) (fun i σ H' => ∃ v4, σ = [some (.ref h), some (.ref t), some (.ref p1), some (.ref q), v4] ∧ Same H1 H' ∧ H' q = some (.lst (V.int ((twos a).length : Nat) :: nV (((twos a).take i).flatMap fun p => [p.1, p.2]))))
      ⟨none, rfl, s2, hq2⟩ (fun i σ H' _ ⟨_, _, s, _⟩ => SqL.of (s _ _ hp1)) ?_ ?_⟩
    · rintro i y σ H3 hi ⟨v4, rfl, s3, hq3⟩
      obtain ⟨u, hu', rfl⟩ := ref_at hi
      obtain ⟨p, hp, hu3⟩ := (hts.same s3).get hu'
      have hi36 : i < ts.length := (List.getElem?_eq_some_iff.mp hu').1
      refine ⟨_, rfl, .inl ⟨rfl, _, SqL.of hq3⟩, _, rfl, q, u, _, _, rfl, rfl, hq3, hu3, ?_, ?_⟩
      · rw [List.length_cons, nV_len, flat2_len, List.length_take]
        show _ + 2 ≤ sizeLine
        exact Nat.le_of_lt (small1000 (by omega))
      · refine ⟨_, rfl, Same.none_upd s3 hq, ?_⟩
        rw [upd_same, Ka.take_more hp, List.flatMap_append, nV_app]
        rfl
    · rintro σ H3 ⟨v4, rfl, s3, hq3⟩
      rw [List.length_map, hlt, List.take_length] at hq3
      refine ⟨_, rfl, wants_pure hQ hH (s1.trans s3) e0 ?_ (s1.free hq) hq3⟩
      rw [ansV_nats]
theorem ok_answer_free (D : Df K mg "answer_free" ["held", "told"] s_answer_free) (T : CT K CD) (TH : HT K CC) (N : Cn mg)
    (O_has_other_deeds : Ok P w K mg base "has_other_deeds" ["deeds", "chosen"] 2 (spOtherD K))
    (O_yes_or_no : Ok P w K mg base "yes_or_no" ["so"] 1 (spYes))
    (O_are_free : Ok P w K mg base "are_free" ["rule", "deeds"] 5 (spFree K CD))
    (O_deeds_in : Ok P w K mg base "deeds_in" ["deeds", "chosen"] 2 (spDeedsIn K CD)) :
    Ok P w K mg base "answer_free" ["held", "told"] 6 (spH K CC CD mkFree) := by
  obtain ⟨f_has_other_deeds, fd_has_other_deeds, G_has_other_deeds, g_has_other_deeds, k_has_other_deeds, b_has_other_deeds⟩ := O_has_other_deeds
  obtain ⟨f_yes_or_no, fd_yes_or_no, G_yes_or_no, g_yes_or_no, k_yes_or_no, b_yes_or_no⟩ := O_yes_or_no
  obtain ⟨f_are_free, fd_are_free, G_are_free, g_are_free, k_are_free, b_are_free⟩ := O_are_free
  obtain ⟨f_deeds_in, fd_deeds_in, G_deeds_in, g_deeds_in, k_deeds_in, b_deeds_in⟩ := O_deeds_in
  obtain ⟨t_NOT_AS_TOLD, c_NOT_AS_TOLD⟩ := N.NOT_AS_TOLD
  refine Ok.mk D sc_answer_free (fun vs H Q E h => ?_) (fun f cdv A outer s H vs Q E hr h => ?_)
  · obtain ⟨h, t, L, a, ns, c, rfl, _⟩ := h
    rfl
  · obtain ⟨h, t, L, a, ns, c, rfl, hH, hwf, ht, hmk, hQ⟩ := h
    obtain ⟨x, rfl, rfl⟩ := mk1 hmk
    obtain ⟨⟨dx, hh⟩, ds, hL, hds⟩ := id hH
    have hlen : (ds.map V.ref).length = a.deeds.length := by rw [List.length_map, hds.len]
    have l6 := hwf.len
    have e0 : Kh411.doesA a (.free x) = (a, if 2 ^ a.deeds.length ≤ x then Kh411.say (-22) else Kh411.yes (Kh411.free a x)) := rfl
    have hu := hu_of hr
    have hr_has_other_deeds : Room 2 _ := hr.mono (by decide)
    have hr_yes_or_no : Room 1 _ := hr.mono (by decide)
    have hr_are_free : Room 5 _ := hr.mono (by decide)
    have hr_deeds_in : Room 2 _ := hr.mono (by decide)
    refine ⟨_, (pss_cons (ps_if (pt_val (pe_call G_has_other_deeds hr_has_other_deeds rfl g_has_other_deeds k_has_other_deeds b_has_other_deeds .nil pass0 (pa_cons (pe_fld (pv 0) rfl) (pa_cons (pe_ix ix_list (pv 1) pe_int (fun _ _ => rfl)) pa_nil)))) (pss_one (ps_ret (pe_lst (pa_cons (pe_glob (v := .int (-22)) rfl c_NOT_AS_TOLD ⟨_, rfl⟩) pa_nil)))) pss_nil)
        (pss_one (ps_ret (pe_call G_yes_or_no hr_yes_or_no rfl g_yes_or_no k_yes_or_no b_yes_or_no .nil pass0 (pa_cons (pe_call G_are_free hr_are_free rfl g_are_free k_are_free b_are_free .nil pass0 (pa_cons (pe_fld (pv 0) rfl) (pa_cons (pe_call G_deeds_in hr_deeds_in rfl g_deeds_in k_deeds_in b_deeds_in .nil pass0 (pa_cons (pe_fld (pv 0) rfl) (pa_cons (pe_ix ix_list (pv 1) pe_int (fun _ _ => rfl)) pa_nil))) pa_nil))) pa_nil))))), ?_⟩
    refine ⟨_, rfl, h, CC, dx, _, _, rfl, hh, TH.cl, TH.deeds, hF_deeds _ _ _, _, rfl, t, _, _, _, rfl, rfl, ht, at0, L, _, x, rfl, SqL.of hL, by omega, _, rfl, ?_⟩
    rw [hlen]
    by_cases c : 2 ^ a.deeds.length ≤ x
    · rw [decide_eq_true c]
      rw [if_pos c] at e0
      exact iteT ⟨one_ok, wants_new hQ hH (Same.refl H) e0 rfl⟩
    · rw [decide_eq_false c]
      rw [if_neg c] at e0
      refine iteF ⟨_, rfl, h, CC, dx, _, _, rfl, hh, TH.cl, TH.rule, hF_rule _ _ _, _, rfl, h, CC, dx, _, _, rfl, hh, TH.cl, TH.deeds, hF_deeds _ _ _, _, rfl, t, _, _, _, rfl, rfl, ht, at0, a, L, x, rfl, ⟨ds, SqL.of hL, hds⟩, l6, fun H1 p1 s1 hp0 ⟨es, hp1, hes⟩ => ?_⟩
      refine ⟨Kh411.only a x, p1, rfl, ⟨es, SqL.of hp1, hes⟩, wf_only hwf x, fun H2 s2 => ⟨_, rfl, fun H3 p3 s3 hp3 h33 => ?_⟩⟩
      have s12 := s1.trans s2
      refine wants_pure hQ hH (s12.trans s3) e0 ?_ (s12.free hp3) h33
      rw [Ka.free_keeps hwf.m1]
      rfl
theorem ok_answer_most_free (D : Df K mg "answer_most_free" ["held", "told"] s_answer_most_free) (T : CT K CD) (TH : HT K CC) (N : Cn mg)
    (O_most_free_sets : Ok P w K mg base "most_free_sets" ["rule", "deeds"] 6 (spMost K CD)) :
    Ok P w K mg base "answer_most_free" ["held", "told"] 7 (spH K CC CD (mk0 .mostFree)) := by
  obtain ⟨f_most_free_sets, fd_most_free_sets, G_most_free_sets, g_most_free_sets, k_most_free_sets, b_most_free_sets⟩ := O_most_free_sets
  refine Ok.mk D sc_answer_most_free (fun vs H Q E h => ?_) (fun f cdv A outer s H vs Q E hr h => ?_)
  · obtain ⟨h, t, L, a, ns, c, rfl, _⟩ := h
    rfl
  · obtain ⟨h, t, L, a, ns, c, rfl, hH, hwf, ht, hmk, hQ⟩ := h
    obtain ⟨rfl, rfl⟩ := mk0_of hmk
    obtain ⟨⟨dx, hh⟩, ds, hL, hds⟩ := id hH
    have n64 := hwf.d64
    have lM : (Kh411.mostFree a).length ≤ 2 ^ a.deeds.length := Ka.rising_len (Ka.mostFree_rising a) fun x hx => (Ka.mem_mostFree.mp hx).1
    have e0 : Kh411.doesA a .mostFree = (a, Kh411.nats (Kh411.mostFree a).length (Kh411.mostFree a)) := rfl
    have hu := hu_of hr
    have hr_most_free_sets : Room 6 _ := hr.mono (by decide)
    refine ⟨_, (pss_cons (ps_set (i := 2) sc_answer_most_free.nd rfl (Or.inl rfl) (pe_call G_most_free_sets hr_most_free_sets rfl g_most_free_sets k_most_free_sets b_most_free_sets .nil pass0 (pa_cons (pe_fld (pv 0) rfl) (pa_cons (pe_fld (pv 0) rfl) pa_nil))))
        (pss_one (ps_ret (pe_op op_cat (pe_lst (pa_cons (pe_callB call_len_seq (by rfl) N.len PySem.boot_len (pa_cons (pv 2) pa_nil)) pa_nil)) (pv 2))))), ?_⟩
    refine ⟨_, rfl, h, CC, dx, _, _, rfl, hh, TH.cl, TH.rule, hF_rule _ _ _, _, rfl, h, CC, dx, _, _, rfl, hh, TH.cl, TH.deeds, hF_deeds _ _ _, a, L, rfl, ⟨ds, SqL.of hL, hds⟩, hwf, fun H1 p1 s1 hp0 hp1 => ?_⟩
    refine ⟨_, rfl, p1, _, rfl, .inl (SqL.of hp1), one_ok, fun p2 hp2 => ?_⟩
    have n12 : p1 ≠ p2 := ne_of_none hp1 hp2
    refine ⟨_, rfl, p2, p1, _, _, rfl, rfl, upd_same, (upd_ne n12).trans hp1, ?_, ?_⟩
    · rw [nV_len]
      show 1 + _ ≤ sizeLine
      exact Nat.le_of_lt (small1000 (by omega))
    · refine wants_new hQ hH (Same.none_upd s1 (s1.free hp2)) e0 ?_
      rw [ansV_nats, nV_len]
      rfl
theorem ok_answer_asked (D : Df K mg "answer_asked" ["held", "told"] s_answer_asked) (T : CT K CD) (TH : HT K CC) (N : Cn mg)
    (O_fewest_asked_sets : Ok P w K mg base "fewest_asked_sets" ["rule", "deeds"] 7 (spAsked K CD))
    (O_how_many_in : Ok P w K mg base "how_many_in" ["chosen"] 2 (spCount)) :
    Ok P w K mg base "answer_asked" ["held", "told"] 8 (spH K CC CD (mk0 .asked)) := by
  obtain ⟨f_fewest_asked_sets, fd_fewest_asked_sets, G_fewest_asked_sets, g_fewest_asked_sets, k_fewest_asked_sets, b_fewest_asked_sets⟩ := O_fewest_asked_sets
  obtain ⟨f_how_many_in, fd_how_many_in, G_how_many_in, g_how_many_in, k_how_many_in, b_how_many_in⟩ := O_how_many_in
  refine Ok.mk D sc_answer_asked (fun vs H Q E h => ?_) (fun f cdv A outer s H vs Q E hr h => ?_)
  · obtain ⟨h, t, L, a, ns, c, rfl, _⟩ := h
    rfl
  · obtain ⟨h, t, L, a, ns, c, rfl, hH, hwf, ht, hmk, hQ⟩ := h
    obtain ⟨rfl, rfl⟩ := mk0_of hmk
    obtain ⟨⟨dx, hh⟩, ds, hL, hds⟩ := id hH
    have n64 := hwf.d64
    have l6 := hwf.len
    have lM : (Kh411.askedOf a).length ≤ 2 ^ a.deeds.length := Ka.rising_len (Ka.askedOf_rising a) fun x hx => (Ka.mem_askedOf.mp hx).1
    obtain ⟨x, r, ea⟩ := Ka.askedOf_ne hwf.m1
    have hx : x < 2 ^ a.deeds.length := (Ka.mem_askedOf.mp (by rw [ea]; exact List.mem_cons_self)).1
    have e0 : Kh411.doesA a .asked = (a, Kh411.nats (Kh411.size a x) (x :: r)) := by
      show (a, match Kh411.askedOf a with | [] => _ | x :: l => _) = _
      rw [ea]
    have hu := hu_of hr
    have hr_fewest_asked_sets : Room 7 _ := hr.mono (by decide)
    have hr_how_many_in : Room 2 _ := hr.mono (by decide)
    refine ⟨_, (pss_cons (ps_set (i := 2) sc_answer_asked.nd rfl (Or.inl rfl) (pe_call G_fewest_asked_sets hr_fewest_asked_sets rfl g_fewest_asked_sets k_fewest_asked_sets b_fewest_asked_sets .nil pass0 (pa_cons (pe_fld (pv 0) rfl) (pa_cons (pe_fld (pv 0) rfl) pa_nil))))
        (pss_one (ps_ret (pe_op op_cat (pe_lst (pa_cons (pe_call G_how_many_in hr_how_many_in rfl g_how_many_in k_how_many_in b_how_many_in .nil pass0 (pa_cons (pe_ix ix_list (pv 2) pe_int (fun _ _ => rfl)) pa_nil)) pa_nil)) (pv 2))))), ?_⟩
    refine ⟨_, rfl, h, CC, dx, _, _, rfl, hh, TH.cl, TH.rule, hF_rule _ _ _, _, rfl, h, CC, dx, _, _, rfl, hh, TH.cl, TH.deeds, hF_deeds _ _ _, a, L, rfl, ⟨ds, SqL.of hL, hds⟩, hwf, fun H1 p1 s1 hp0 hp1 => ?_⟩
    rw [ea] at hp1 lM
    refine ⟨_, rfl, p1, _, _, V.int (x : Int), rfl, rfl, SqL.of hp1, at0, x, a.deeds.length, rfl, hx, by omega, one_ok, fun p2 hp2 => ?_⟩
    have n12 : p1 ≠ p2 := ne_of_none hp1 hp2
    refine ⟨_, rfl, p2, p1, _, _, rfl, rfl, upd_same, (upd_ne n12).trans hp1, ?_, ?_⟩
    · rw [nV_len]
      show 1 + _ ≤ sizeLine
      exact Nat.le_of_lt (small1000 (by omega))
    · refine wants_new hQ hH (Same.none_upd s1 (s1.free hp2)) e0 ?_
      rw [ansV_nats, Ka.size_lets]
      rfl
theorem ok_answer_alone (D : Df K mg "answer_alone" ["held", "told"] s_answer_alone) (T : CT K CD) (TH : HT K CC) (N : Cn mg)
    (O_yes_or_no : Ok P w K mg base "yes_or_no" ["so"] 1 (spYes))
    (O_has_deed : Ok P w K mg base "has_deed" ["held", "i"] 1 (spHas CC CD))
    (O_are_free : Ok P w K mg base "are_free" ["rule", "deeds"] 5 (spFree K CD)) :
    Ok P w K mg base "answer_alone" ["held", "told"] 6 (spH K CC CD mkAlone) := by
  obtain ⟨f_yes_or_no, fd_yes_or_no, G_yes_or_no, g_yes_or_no, k_yes_or_no, b_yes_or_no⟩ := O_yes_or_no
  obtain ⟨f_has_deed, fd_has_deed, G_has_deed, g_has_deed, k_has_deed, b_has_deed⟩ := O_has_deed
  obtain ⟨f_are_free, fd_are_free, G_are_free, g_are_free, k_are_free, b_are_free⟩ := O_are_free
  obtain ⟨t_NO_SUCH_DEED, c_NO_SUCH_DEED⟩ := N.NO_SUCH_DEED
  refine Ok.mk D sc_answer_alone (fun vs H Q E h => ?_) (fun f cdv A outer s H vs Q E hr h => ?_)
  · obtain ⟨h, t, L, a, ns, c, rfl, _⟩ := h
    rfl
  · obtain ⟨h, t, L, a, ns, c, rfl, hH, hwf, ht, hmk, hQ⟩ := h
    obtain ⟨i, rfl, rfl⟩ := mk1 hmk
    obtain ⟨⟨dx, hh⟩, ds, hL, hds⟩ := id hH
    have hn := hds.len
    have e0 : Kh411.doesA a (.alone i) = (a, if a.deeds.length ≤ i then Kh411.say (-2) else Kh411.yes (Kh411.free a (2 ^ i))) := rfl
    have hu := hu_of hr
    have hr_yes_or_no : Room 1 _ := hr.mono (by decide)
    have hr_has_deed : Room 1 _ := hr.mono (by decide)
    have hr_are_free : Room 5 _ := hr.mono (by decide)
    refine ⟨_, (pss_cons (ps_if (pt_not (pt_val (pe_call G_has_deed hr_has_deed rfl g_has_deed k_has_deed b_has_deed .nil pass0 (pa_cons (pv 0) (pa_cons (pe_ix ix_list (pv 1) pe_int (fun _ _ => rfl)) pa_nil))))) (pss_one (ps_ret (pe_lst (pa_cons (pe_glob (v := .int (-2)) rfl c_NO_SUCH_DEED ⟨_, rfl⟩) pa_nil)))) pss_nil)
        (pss_one (ps_ret (pe_call G_yes_or_no hr_yes_or_no rfl g_yes_or_no k_yes_or_no b_yes_or_no .nil pass0 (pa_cons (pe_call G_are_free hr_are_free rfl g_are_free k_are_free b_are_free .nil pass0 (pa_cons (pe_fld (pv 0) rfl) (pa_cons (pe_lst (pa_cons (pe_ix ix_list (pe_fld (pv 0) rfl) (pe_ix ix_list (pv 1) pe_int (fun _ _ => rfl)) (fun _ _ => rfl)) pa_nil)) pa_nil))) pa_nil))))), ?_⟩
    refine ⟨_, rfl, _, rfl, t, _, _, _, rfl, rfl, ht, at0, h, L, a, i, rfl, hH, _, rfl, ?_⟩
    by_cases c : i < a.deeds.length
    · rw [decide_eq_true c]
      rw [if_neg (by omega)] at e0
      have hi : i < ds.length := by omega
      obtain ⟨d, hd, hD⟩ := hds.get (List.getElem?_eq_getElem hi)
      refine iteF ⟨_, rfl, h, CC, dx, _, _, rfl, hh, TH.cl, TH.rule, hF_rule _ _ _, _, rfl, h, CC, dx, _, _, rfl, hh, TH.cl, TH.deeds, hF_deeds _ _ _, _, rfl, t, _, _, _, rfl, rfl, ht, at0, L, _, _, V.ref ds[i], rfl, rfl, SqL.of hL, atI_nat (j := i) (by rw [List.getElem?_map, List.getElem?_eq_getElem hi]; rfl), one_ok, fun p1 hp1 => ?_⟩
      have s1 : Same H (upd H p1 (.lst [V.ref ds[i]])) := Same.new hp1
      refine ⟨⟨a.m, a.rule, [d]⟩, p1, rfl, ⟨[ds[i]], SqL.of upd_same, hD.same s1, trivial⟩, ⟨hwf.m1, hwf.m4, hwf.r, (by show 1 ≤ 6; decide), fun e he => ?_⟩, fun H2 s2 => ⟨_, rfl, fun H3 p3 s3 hp3 h33 => ?_⟩⟩
      · rw [List.mem_singleton.mp he]
        exact hwf.ok d (List.mem_of_getElem? hd)
      have s12 := s1.trans s2
      refine wants_pure hQ hH (s12.trans s3) e0 ?_ (s12.free hp3) h33
      rw [Ka.free_one hwf.m1 hd]
    · rw [decide_eq_false c]
      rw [if_pos (by omega)] at e0
      exact iteT ⟨one_ok, wants_new hQ hH (Same.refl H) e0 rfl⟩
theorem ok_answer_closed (D : Df K mg "answer_closed" ["held", "told"] s_answer_closed) (T : CT K CD) (TH : HT K CC) (N : Cn mg)
    (O_yes_or_no : Ok P w K mg base "yes_or_no" ["so"] 1 (spYes))
    (O_first_opening : Ok P w K mg base "first_opening" ["rule"] 4 (spOpening)) :
    Ok P w K mg base "answer_closed" ["held", "told"] 5 (spH K CC CD (mk0 .closed)) := by
  obtain ⟨f_yes_or_no, fd_yes_or_no, G_yes_or_no, g_yes_or_no, k_yes_or_no, b_yes_or_no⟩ := O_yes_or_no
  obtain ⟨f_first_opening, fd_first_opening, G_first_opening, g_first_opening, k_first_opening, b_first_opening⟩ := O_first_opening
  refine Ok.mk D sc_answer_closed (fun vs H Q E h => ?_) (fun f cdv A outer s H vs Q E hr h => ?_)
  · obtain ⟨h, t, L, a, ns, c, rfl, _⟩ := h
    rfl
  · obtain ⟨h, t, L, a, ns, c, rfl, hH, hwf, ht, hmk, hQ⟩ := h
    obtain ⟨rfl, rfl⟩ := mk0_of hmk
    obtain ⟨⟨dx, hh⟩, ds, hL, hds⟩ := id hH
    have e0 : Kh411.doesA a .closed = (a, Kh411.yes (Kh411.closedRule a)) := rfl
    have hu := hu_of hr
    have hr_yes_or_no : Room 1 _ := hr.mono (by decide)
    have hr_first_opening : Room 4 _ := hr.mono (by decide)
    refine ⟨_, (pss_one (ps_ret (pe_call G_yes_or_no hr_yes_or_no rfl g_yes_or_no k_yes_or_no b_yes_or_no .nil pass0 (pa_cons (pe_cmpR op_eq (pe_callB call_len_seq (by rfl) N.len PySem.boot_len (pa_cons (pe_call G_first_opening hr_first_opening rfl g_first_opening k_first_opening b_first_opening .nil pass0 (pa_cons (pe_fld (pv 0) rfl) pa_nil)) pa_nil)) pe_int (nomark _)) pa_nil)))), ?_⟩
    refine ⟨_, rfl, h, CC, dx, _, _, rfl, hh, TH.cl, TH.rule, hF_rule _ _ _, a, rfl, hwf, fun H1 p1 s1 hp0 hp1 => ?_⟩
    refine ⟨p1, _, rfl, .inl (SqL.of hp1), rfl, Kh411.closedRule a, ?_, fun H2 p2 s2 hp2 h22 => ?_⟩
    · show [V.bl (decide (V.int ((nV ((Ka.opn a (lets a.rule (2 ^ a.m))).getD [])).length : Int) = V.int 0))] = _
      rw [dec_int, nV_len, len_zero]
      have on := Ka.opn_none (a := a)
      cases c : Ka.opn a (lets a.rule (2 ^ a.m)) with
      | none =>
        rw [on.mp c]
        rfl
      | some l =>
        obtain ⟨x, r, rfl⟩ := opn_form c
        have : Kh411.closedRule a = false := by
          cases e : Kh411.closedRule a with
          | false => rfl
          | true =>
            rw [on.mpr e] at c
            cases c
        rw [this]
        rfl
    · exact wants_pure hQ hH (s1.trans s2) e0 rfl (s1.free hp2) h22
theorem ok_answer_open_states (D : Df K mg "answer_open_states" ["held", "told"] s_answer_open_states) (T : CT K CD) (TH : HT K CC) (N : Cn mg)
    (O_first_opening : Ok P w K mg base "first_opening" ["rule"] 4 (spOpening)) :
    Ok P w K mg base "answer_open_states" ["held", "told"] 5 (spH K CC CD (mk0 .open_)) := by
  obtain ⟨f_first_opening, fd_first_opening, G_first_opening, g_first_opening, k_first_opening, b_first_opening⟩ := O_first_opening
  obtain ⟨t_IS_CLOSED, c_IS_CLOSED⟩ := N.IS_CLOSED
  refine Ok.mk D sc_answer_open_states (fun vs H Q E h => ?_) (fun f cdv A outer s H vs Q E hr h => ?_)
  · obtain ⟨h, t, L, a, ns, c, rfl, _⟩ := h
    rfl
  · obtain ⟨h, t, L, a, ns, c, rfl, hH, hwf, ht, hmk, hQ⟩ := h
    obtain ⟨rfl, rfl⟩ := mk0_of hmk
    obtain ⟨⟨dx, hh⟩, ds, hL, hds⟩ := id hH
    have e0 : Kh411.doesA a .open_ = (a, match Ka.opn a (lets a.rule (2 ^ a.m)) with | none => Kh411.say (-33) | some l => Kh411.nats (l.headD 0) (l.drop 1)) := by
      rw [← Ka.opn_is]
      rfl
    have hu := hu_of hr
    have hr_first_opening : Room 4 _ := hr.mono (by decide)
    refine ⟨_, (pss_cons (ps_set (i := 2) sc_answer_open_states.nd rfl (Or.inl rfl) (pe_call G_first_opening hr_first_opening rfl g_first_opening k_first_opening b_first_opening .nil pass0 (pa_cons (pe_fld (pv 0) rfl) pa_nil)))
        (pss_cons (ps_if (pt_cmpR op_eq (pe_callB call_len_seq (by rfl) N.len PySem.boot_len (pa_cons (pv 2) pa_nil)) pe_int (nomark _)) (pss_one (ps_ret (pe_lst (pa_cons (pe_glob (v := .int (-33)) rfl c_IS_CLOSED ⟨_, rfl⟩) pa_nil)))) pss_nil)
        (pss_one (ps_ret (pv 2))))), ?_⟩
    refine ⟨_, rfl, h, CC, dx, _, _, rfl, hh, TH.cl, TH.rule, hF_rule _ _ _, a, rfl, hwf, fun H1 p1 s1 hp0 hp1 => ?_⟩
    refine ⟨_, rfl, p1, _, rfl, .inl (SqL.of hp1), rfl, _, rfl, ?_⟩
    rw [dec_int, nV_len, len_zero]
    cases c : Ka.opn a (lets a.rule (2 ^ a.m)) with
    | none =>
      rw [c] at e0
      exact iteT ⟨one_ok, wants_new hQ hH s1 e0 rfl⟩
    | some l =>
      obtain ⟨x, r, rfl⟩ := opn_form c
      rw [c] at e0 hp1
      refine iteF ⟨_, rfl, wants_pure hQ hH s1 e0 ?_ hp0 hp1⟩
      show nV (x :: r) = ansV (Kh411.nats x r)
      rw [ansV_nats]
      rfl
theorem ok_answer_state (D : Df K mg "answer_state" ["held", "told"] s_answer_state) (T : CT K CD) (TH : HT K CC) (N : Cn mg)
    (O_how_many_in : Ok P w K mg base "how_many_in" ["chosen"] 2 (spCount)) :
    Ok P w K mg base "answer_state" ["held", "told"] 3 (spH K CC CD (mk0 .state)) := by
  obtain ⟨f_how_many_in, fd_how_many_in, G_how_many_in, g_how_many_in, k_how_many_in, b_how_many_in⟩ := O_how_many_in
  refine Ok.mk D sc_answer_state (fun vs H Q E h => ?_) (fun f cdv A outer s H vs Q E hr h => ?_)
  · obtain ⟨h, t, L, a, ns, c, rfl, _⟩ := h
    rfl
  · obtain ⟨h, t, L, a, ns, c, rfl, hH, hwf, ht, hmk, hQ⟩ := h
    obtain ⟨rfl, rfl⟩ := mk0_of hmk
    obtain ⟨⟨dx, hh⟩, ds, hL, hds⟩ := id hH
    have e0 : Kh411.doesA a .state = (a, Kh411.nats a.m [a.deeds.length, ((Kh411.states a).filter (Kh411.let_ a)).length]) := rfl
    have hu := hu_of hr
    have hr_how_many_in : Room 2 _ := hr.mono (by decide)
    refine ⟨_, (pss_one (ps_ret (pe_lst (pa_cons (pe_fld (pv 0) rfl) (pa_cons (pe_callB call_len_seq (by rfl) N.len PySem.boot_len (pa_cons (pe_fld (pv 0) rfl) pa_nil)) (pa_cons (pe_call G_how_many_in hr_how_many_in rfl g_how_many_in k_how_many_in b_how_many_in .nil pass0 (pa_cons (pe_fld (pv 0) rfl) pa_nil)) pa_nil)))))), ?_⟩
    refine ⟨_, rfl, h, CC, dx, _, _, rfl, hh, TH.cl, TH.facts, hF_facts _ _ _, _, rfl, h, CC, dx, _, _, rfl, hh, TH.cl, TH.deeds, hF_deeds _ _ _, L, _, rfl, .inl (SqL.of hL), _, rfl, h, CC, dx, _, _, rfl, hh, TH.cl, TH.rule, hF_rule _ _ _, a.rule, 2 ^ a.m, rfl, hwf.r, hwf.n64, (by show 3 ≤ sizeLine; decide), wants_new hQ hH (Same.refl H) e0 ?_⟩
    rw [ansV_nats, Ka.lets_eq, List.length_map, hds.len]
    rfl
end
end Kp
-- KpMain
namespace Kp
open PySem PySem.Spec PyProof.Rows L2
open Kh411 (Deed Abs Call Ans)
/-! ### a call of a local name that holds a def, its promise told by the reading -/
def tCallU (P : Program) (w : World) (K : PySem.W.Frag) (mg : Str → Option Value) (base : Heap) (k i : Nat) (t : TA) : TE := fun σ H Q => ∃ f sp, σ[i]? = some (some (.ref f)) ∧ Held P w K mg base k f sp ∧ t σ H fun vs H1 => sp vs H1 Q (fun _ _ _ => False)
theorem pe_callU {X : Cx} {k i : Nat} {x : Str} {p pos : Pos} {e : Expr} {es : List Expr} {t : TA}
    (hr : Room k X.A) (hN : X.N[i]? = some x) (hv : Vis X.env.scope x) (ha : PA X (e :: es) t)
    (d1 : (x == ("__debug__" : Str)) = false := by decide)
    (d2 : (x == ("__classdict__" : Str)) = false := by decide)
    (d3 : starEach (e :: es) X.env = (false, eval e X.env) :: starEach es X.env := by rfl)
    (d4 : (backTo pos (starEach es X.env)).any (·.1) = false := by rfl) :
    PE X (.Call (.Name x p) (e :: es) [] pos) (tCallU X.prog X.w X.K X.mg X.base k i t) :=
  ⟨fun pins s σ H Q I ⟨f, sp, hs, hd, ht⟩ => hd.ex.elim fun fd ⟨ps, F, hk, hb⟩ =>
    (pe_callL (i := i) (dvs := []) (E := E0) F hr hN hv hk hb .nil pass0 ha d1 d2 d3 d4).run pins s σ H Q I ⟨hs, by simpa only [List.append_nil] using ht⟩⟩
/-! ### the state of the calls -/
def absOf : Option Abs → Abs
  | none => ⟨0, 0, []⟩
  | some a => a
def WfS : Option Abs → Prop
  | none => True
  | some a => Wf a
theorem wf_does {a : Abs} (h : Wf a) (c : Call) : Wf (Kh411.doesA a c).1 := by
  cases c with
  | rule r =>
    show Wf (if 2 ^ (2 ^ a.m) ≤ r then (a, Kh411.say (-22)) else ({ a with rule := r }, Kh411.say 0)).1
    split
    · exact h
    · next hr => exact ⟨h.m1, h.m4, Nat.lt_of_not_le hr, h.len, h.ok⟩
  | deed n b x y =>
    show Wf (if Kh411.okDeed a ⟨n, b, x, y⟩ = false then (a, Kh411.say (-22)) else if Kh411.DEEDS ≤ a.deeds.length then (a, Kh411.say (-28)) else ({ a with deeds := a.deeds ++ [⟨n, b, x, y⟩] }, Kh411.say a.deeds.length)).1
    split
    · exact h
    · next hd =>
      split
      · exact h
      · next hl =>
        refine ⟨h.m1, h.m4, h.r, ?_, fun d hm => ?_⟩
        · show (a.deeds ++ [_]).length ≤ 6
          have : ¬ 6 ≤ a.deeds.length := hl
          rw [List.length_append]
          show a.deeds.length + 1 ≤ 6
          omega
        · rcases List.mem_append.mp hm with q | q
          · exact h.ok d q
          · rw [List.mem_singleton.mp q]
            exact (okDeed_iff a _).mp (by simpa using hd)
  | drop i =>
    show Wf (if a.deeds.length ≤ i then (a, Kh411.say (-2)) else ({ a with deeds := a.deeds.eraseIdx i }, Kh411.say (a.deeds.length - 1 : Nat))).1
    split
    · exact h
    · refine ⟨h.m1, h.m4, h.r, ?_, fun d hm => h.ok d (List.mem_of_mem_eraseIdx hm)⟩
      exact Nat.le_trans (List.length_eraseIdx_le _ _) h.len
  | _ => exact h
theorem wf_doing {st : Option Abs} (h : WfS st) (c : Call) : WfS (Kh411.doing st c).1 := by
  cases c with
  | begin_ m =>
    show WfS (if m < 1 ∨ 4 < m then (st, Kh411.say (-22)) else (some ⟨m, 2 ^ (2 ^ m) - 1, []⟩, Kh411.say 0)).1
    split
    · exact h
    · refine ⟨by show 1 ≤ m; omega, by show m ≤ 4; omega, ?_, Nat.zero_le _, fun d hd => by cases hd⟩
      have : 1 ≤ 2 ^ 2 ^ m := Nat.one_le_two_pow
      show 2 ^ 2 ^ m - 1 < 2 ^ 2 ^ m
      omega
  | _ =>
    cases st with
    | none => exact trivial
    | some a => exact wf_does h _
theorem not_begin {p : Nat} {ns : List Nat} {c : Call} (h : Ka.mkC p ns = some c) (hp : p ≠ 0) : ∀ m, c ≠ .begin_ m := by
  intro m e
  subst e
  unfold Ka.mkC at h
  split at h <;> first | exact hp rfl | cases h | skip
  split at h <;> cases h
theorem doing_some {a : Abs} {c : Call} (h : ∀ m, c ≠ .begin_ m) : Kh411.doing (some a) c = (some (Kh411.doesA a c).1, (Kh411.doesA a c).2) := by
  cases c with
  | begin_ m => exact absurd rfl (h m)
  | _ => rfl
theorem doing_none {c : Call} (h : ∀ m, c ≠ .begin_ m) : Kh411.doing none c = (none, Kh411.say (-61)) := by
  cases c with
  | begin_ m => exact absurd rfl (h m)
  | _ => rfl
theorem doing_begin (st : Option Abs) (m : Nat) : absOf (Kh411.doing st (.begin_ m)).1 = (begun (absOf st) m).1 ∧ (Kh411.doing st (.begin_ m)).2 = (begun (absOf st) m).2 := by
  have e : Kh411.doing st (.begin_ m) = if m < 1 ∨ 4 < m then (st, Kh411.say (-22)) else (some ⟨m, 2 ^ (2 ^ m) - 1, []⟩, Kh411.say 0) := by
    cases st <;> rfl
  rw [e]
  unfold begun
  split <;> exact ⟨rfl, rfl⟩
theorem mkC_zero {ns : List Nat} {c : Call} (h : Ka.mkC 0 ns = some c) : ∃ m, ns = [m] ∧ c = .begin_ m := by
  match ns, h with
  | [m], h => exact ⟨m, rfl, (Option.some.inj h).symm⟩
/-! ### the table of the calls -/
structure CallsAt (K : PySem.W.Frag) (mg : Str → Option Value) (TT : Addr) (Tb : List (Nat × Addr)) : Prop where
  glob : mg "CALLS" = some (.ref TT)
  ex : ∃ es : List Addr, (∀ H, SqT K H TT (es.map V.ref)) ∧ ∀ (i n : Nat) (f : Addr), Tb[i]? = some (n, f) → ∃ e, es[i]? = some e ∧ ∀ H, SqT K H e [.int (n : Int), .ref f]
theorem flat_at {ns : List Nat} {at_ : Nat} {x y : List Nat} (h : ns.drop at_ = x ++ y) {i v : Nat} (hv : x[i]? = some v) : ns[at_ + i]? = some v := by
  have hi : i < x.length := (List.getElem?_eq_some_iff.mp hv).1
  rw [← List.getElem?_drop, h, List.getElem?_append_left hi]
  exact hv
theorem nV_get {ns : List Nat} {i v : Nat} (h : ns[i]? = some v) : atI (nV ns) (i : Int) = some (.int (v : Int)) := atI_nat (j := i) (by unfold nV; rw [List.getElem?_map, h]; rfl)
def spEnd (K : PySem.W.Frag) : Sp := fun vs H Q _ => ∃ (l : Addr) (at_ : Nat) (ns : List Nat) (q : Ka.One) (qs : List Ka.One), vs = [.ref l, .int (at_ : Int)] ∧ SqL K H l (nV ns) ∧ ns.drop at_ = Ka.flat (q :: qs) ∧ Ka.Good q ∧ Q (.int ((at_ + 1 + q.2.1.length : Nat) : Int)) H
def spCall (K : PySem.W.Frag) (CC CD : Addr) : Sp := fun vs H Q _ => ∃ (h t L : Addr) (st : Option Abs) (p : Nat) (ns : List Nat) (c : Call), vs = [.ref h, .int (p : Int), .ref t] ∧ HeldAt CC CD H h L (absOf st) ∧ WfS st ∧ SqL K H t (nV ns) ∧ Ka.mkC p ns = some c ∧
  ∀ H' q L', Kept H h L H' → (L' = L ∨ H L' = none) → HeldAt CC CD H' h L' (absOf (Kh411.doing st c).1) → H q = none → H' q = some (.lst (ansV (Kh411.doing st c).2)) → Q (.ref q) H'
section
variable {P : Program} {w : World} {K : PySem.W.Frag} {mg : Str → Option Value} {base : Heap} {CC CD : Addr}
theorem ok_end {TT : Addr} {Tb : List (Nat × Addr)} (D : Df K mg "call_end" ["calls", "at"] s_call_end) (N : Cn mg) (TC : CallsAt K mg TT Tb) (har : ∀ (p n : Nat), Ka.ar[p]? = some n → ∃ f : Addr, Tb[p]? = some (n, f)) : Ok P w K mg base "call_end" ["calls", "at"] 1 (spEnd K) := by
  obtain ⟨t_TOGETHER, c_TOGETHER⟩ := N.TOGETHER
  have c_CALLS := TC.glob
  obtain ⟨es, hTT, hes⟩ := TC.ex
  refine Ok.mk D sc_call_end (fun vs H Q E h => ?_) (fun f cdv A outer s H vs Q E hr h => ?_)
  · obtain ⟨l, at_, ns, q, qs, rfl, _⟩ := h
    rfl
  · obtain ⟨l, at_, ns, q, qs, rfl, hl, hdrop, ⟨hmk, n, hn, hends⟩, hQ⟩ := h
    obtain ⟨p, a, c⟩ := q
    refine ⟨_, (pss_cons (ps_set (i := 2) sc_call_end.nd rfl (Or.inl rfl) (pe_op op_add (pe_op op_add (pv 1) pe_int) (pe_ix ix_tup (pe_ix ix_tup (pe_glob (v := .ref TT) rfl c_CALLS rfl) (pe_ix ix_list (pv 0) (pv 1) (fun _ _ => rfl)) (fun _ _ => rfl)) pe_int (fun _ _ => rfl))))
        (pss_cons (ps_if (pt_cmpR op_eq (pe_ix ix_list (pv 0) (pv 1) (fun _ _ => rfl)) (pe_glob (v := .int 8) rfl c_TOGETHER ⟨_, rfl⟩) (nomark _)) (pss_one (ps_set (i := 2) sc_call_end.nd rfl (Or.inl rfl) (pe_op op_add (pe_op op_add (pv 2) pe_int) (pe_ix ix_list (pv 0) (pv 2) (fun _ _ => rfl))))) pss_nil)
        (pss_one (ps_ret (pv 2))))), ?_⟩
    obtain ⟨f1, hf1⟩ := har p n hn
    obtain ⟨e, he, heT⟩ := hes p n f1 hf1
    have hp : ns[at_]? = some p := flat_at (i := 0) hdrop rfl
    have hE : atI (es.map V.ref) (p : Int) = some (.ref e) := atI_nat (j := p) (by rw [List.getElem?_map, he]; rfl)
    refine ⟨_, rfl, _, _, rfl, rfl, _, rfl, _, rfl, l, _, _, _, rfl, rfl, hl, nV_get hp, TT, _, _, _, rfl, rfl, hTT H, hE, e, _, _, _, rfl, rfl, heT H, at0, _, _, rfl, rfl, ?_⟩
    refine ⟨_, rfl, _, rfl, l, _, _, _, rfl, rfl, hl, nV_get hp, rfl, _, rfl, ?_⟩
    rw [dec_int]
    rcases hends with ⟨h8, hlen⟩ | ⟨h8, j, hj, hlen⟩
    · rw [decide_eq_false (show ¬ (p : Int) = 8 by have : p ≠ 8 := h8; omega)]
      refine iteF ⟨_, rfl, qi ?_ hQ⟩
      have : a.length = n := hlen
      show (at_ : Int) + 1 + (n : Int) = ((at_ + 1 + a.length : Nat) : Int)
      omega
    · rw [decide_eq_true (show (p : Int) = 8 by have : p = 8 := h8; omega)]
      have hj' : ns[at_ + 1 + n]? = some j := by
        have : ((p :: a) : List Nat)[1 + n]? = some j := by
          rw [Nat.add_comm]
          exact hj
        have := flat_at (x := p :: a) (y := Ka.flat qs) hdrop this
        rw [← Nat.add_assoc] at this
        exact this
      refine iteT ⟨_, rfl, _, _, rfl, rfl, _, rfl, _, rfl, l, _, _, V.int (j : Int), rfl, rfl, hl, ?_, _, _, rfl, rfl, ?_⟩
      · show atI (nV ns) ((at_ : Int) + 1 + (n : Int)) = _
        rw [show (at_ : Int) + 1 + (n : Int) = ((at_ + 1 + n : Nat) : Int) by omega]
        exact nV_get hj'
      refine ⟨_, rfl, qi ?_ hQ⟩
      have : a.length = n + 1 + j := hlen
      show (at_ : Int) + 1 + (n : Int) + 1 + (j : Int) = ((at_ + 1 + a.length : Nat) : Int)
      omega
theorem ok_call {TT : Addr} {Tb : List (Nat × Addr)} {kk : Nat} (D : Df K mg "answer_call" ["held", "number", "told"] s_answer_call) (N : Cn mg) (TC : CallsAt K mg TT Tb) (har : ∀ (p n : Nat), Ka.ar[p]? = some n → ∃ f : Addr, Tb[p]? = some (n, f))
    (O_is_begun : Ok P w K mg base "is_begun" ["held"] 1 (spBegun CC CD)) (hk : 1 ≤ kk)
    (H0 : ∀ (n : Nat) (f : Addr), Tb[0]? = some (n, f) → Held P w K mg base kk f (spBegin K CC CD)) (HS : ∀ (p n : Nat) (f : Addr), p ≠ 0 → Tb[p]? = some (n, f) → Held P w K mg base kk f (spH K CC CD (Ka.mkC p))) :
    Ok P w K mg base "answer_call" ["held", "number", "told"] (kk + 1) (spCall K CC CD) := by
  obtain ⟨f_is_begun, fd_is_begun, G_is_begun, g_is_begun, k_is_begun, b_is_begun⟩ := O_is_begun
  obtain ⟨t_BEGIN, c_BEGIN⟩ := N.BEGIN
  obtain ⟨t_NOT_BEGUN, c_NOT_BEGUN⟩ := N.NOT_BEGUN
  have c_CALLS := TC.glob
  obtain ⟨es, hTT, hes⟩ := TC.ex
  refine Ok.mk D sc_answer_call (fun vs H Q E h => ?_) (fun f cdv A outer s H vs Q E hr h => ?_)
  · obtain ⟨h, t, L, st, p, ns, c, rfl, _⟩ := h
    rfl
  · obtain ⟨h, t, L, st, p, ns, c, rfl, hH, hwf, ht, hmk, hQ⟩ := h
    have hr_is_begun : Room 1 _ := hr.mono hk
    have hr_local : Room kk _ := hr
    refine ⟨_, (pss_cons (ps_if (PW.pt (pw_and (pt_cmpR op_ne (pv 1) (pe_glob (v := .int 0) rfl c_BEGIN ⟨_, rfl⟩) (nomark _)) (pw_and1 (pt_not (pt_val (pe_call G_is_begun hr_is_begun rfl g_is_begun k_is_begun b_is_begun .nil pass0 (pa_cons (pv 0) pa_nil))))))) (pss_one (ps_ret (pe_lst (pa_cons (pe_glob (v := .int (-61)) rfl c_NOT_BEGUN ⟨_, rfl⟩) pa_nil)))) pss_nil)
        (pss_cons (ps_set (i := 3) sc_answer_call.nd rfl (Or.inl rfl) (pe_ix ix_tup (pe_ix ix_tup (pe_glob (v := .ref TT) rfl c_CALLS rfl) (pv 1) (fun _ _ => rfl)) pe_int (fun _ _ => rfl)))
        (pss_one (ps_ret (pe_callU (i := 3) hr_local rfl (Or.inl rfl) (pa_cons (pv 0) (pa_cons (pv 2) pa_nil))))))), ?_⟩
    have hp22 : ∃ n, Ka.ar[p]? = some n := by
      unfold Ka.mkC at hmk
      split at hmk <;> first | exact ⟨_, rfl⟩ | cases hmk
    obtain ⟨n, hn⟩ := hp22
    obtain ⟨f1, hf1⟩ := har p n hn
    obtain ⟨e, he, heT⟩ := hes p n f1 hf1
    have hE : atI (es.map V.ref) (p : Int) = some (.ref e) := atI_nat (j := p) (by rw [List.getElem?_map, he]; rfl)
    refine ⟨_, rfl, rfl, _, rfl, ?_⟩
    rw [dec_int]
    by_cases p0 : p = 0
    · subst p0
      obtain ⟨m, rfl, rfl⟩ := mkC_zero hmk
      rw [decide_eq_true (show ((0 : Nat) : Int) = 0 by rfl)]
      refine iteF (iteF ⟨_, rfl, TT, _, _, _, rfl, rfl, hTT H, hE, e, _, _, _, rfl, rfl, heT H, at1, ?_⟩)
      refine ⟨f1, _, rfl, H0 n f1 hf1, _, rfl, _, rfl, h, t, L, absOf st, m, rfl, hH, ht, fun H' q L' hk hL hA hq hl => ?_⟩
      have db := doing_begin st m
      exact hQ H' q L' hk hL (by rw [db.1]; exact hA) hq (by rw [db.2]; exact hl)
    · rw [decide_eq_false (show ¬ (p : Int) = 0 by omega)]
      have nb := not_begin hmk p0
      refine iteT ⟨_, rfl, h, L, absOf st, rfl, hH, _, rfl, ?_⟩
      cases st with
      | none =>
        rw [doing_none nb] at hQ
        exact iteT ⟨one_ok, fun q hq => hQ _ q L (Kept.new hq) (.inl rfl) (hH.same (Same.new hq)) hq upd_same⟩
      | some a =>
        have hwa : Wf a := hwf
        show if (!decide (0 < a.m)) = true then _ else _
        rw [decide_eq_true (show 0 < a.m from hwa.m1)]
        refine iteF ⟨_, rfl, TT, _, _, _, rfl, rfl, hTT H, hE, e, _, _, _, rfl, rfl, heT H, at1, ?_⟩
        rw [doing_some nb] at hQ
        exact ⟨f1, _, rfl, HS p n f1 p0 hf1, _, rfl, _, rfl, h, t, L, a, ns, c, rfl, hH, hwa, ht, hmk, hQ⟩
end
end Kp
-- KpAns
namespace Kp
open PySem PySem.Spec PyProof.Rows L2
open Kh411 (Deed Abs Call Ans)
def spCopies (CC : Addr) : Sp := fun vs H Q _ => ∃ (p dx : Addr), vs = [.ref p] ∧ H p = some (.ins CC dx []) ∧
  ∀ (H' : Hp) (L : Addr), H' p = some (.ins CC dx (hF 0 0 L)) → H L = none → H' L = some (.lst []) → (∀ b o, H b = some o → b ≠ p → H' b = some o) → Q .non H'
def spAnswers (K : PySem.W.Frag) : Sp := fun vs H Q _ => ∃ (l : Addr) (xs : List Int), vs = [.ref l] ∧ SqL K H l (xs.map V.int) ∧ (∀ x ∈ xs, 0 ≤ x) ∧ xs.length ≤ 420 ∧ PyKh411.answers_asked xs = true ∧
  ∀ (H' : Hp) (p : Addr), H' p = some (.lst ((PyKh411.answers xs).map V.int)) → Q (.ref p) H'
theorem HeldAt.upd_list {CC CD : Addr} {H : Hp} {h L g : Addr} {a : Abs} {xs : List V} {o : HO} (x : HeldAt CC CD H h L a) (hg : H g = some (.lst xs)) (n : g ≠ L) : HeldAt CC CD (upd H g o) h L a := by
  obtain ⟨⟨dx, e⟩, ds, e2, e3⟩ := x
  have nh : h ≠ g := ne_of e hg (by intro z; cases z)
  exact ⟨⟨dx, (upd_ne nh).trans e⟩, ds, (upd_ne n.symm).trans e2, e3.other (deeds_lst hg)⟩
theorem flat_nil {qs : List Ka.One} (h : Ka.flat qs = []) : qs = [] := by
  cases qs with
  | nil => rfl
  | cons q qs => cases h
def muA (n : Nat) (σ : L2.St) : Nat := match (σ[3]? : Option (Option V)) with
  | some (some (V.int i)) => n - i.toNat
  | _ => 0
theorem big_ok {n : Nat} (h : n ≤ 10000000) : n ≤ sizeLine := Nat.le_trans h (by decide)
theorem big_lt {n : Nat} (h : n ≤ 10000000) : n < sizeLine := Nat.lt_of_le_of_lt h (by decide)
section
variable {P : Program} {w : World} {K : PySem.W.Frag} {mg : Str → Option Value} {base : Heap} {CC CD : Addr}
theorem ok_Copies {f : Addr} {fd : FuncData} (F : Fun K "__init__" "Copies.__init__" s_Copies_init f fd) (TH : HT K CC) : FnOk P w K mg base CX0 1 f fd ["self"] (spCopies CC) := by
  refine F.ok sc_Copies_init (fun vs H Q E h => ?_) (fun cdv A outer s H vs Q E hr h => ?_)
  · obtain ⟨p, dx, rfl, _⟩ := h
    rfl
  · obtain ⟨p, dx, rfl, hp, k⟩ := h
    refine ⟨_, (pss_cons (ps_fld (pv 0) pe_int rfl) (pss_cons (ps_fld (pv 0) pe_int rfl) (pss_one (ps_fld (pv 0) (pe_lst pa_nil) rfl)))), ?_⟩
    refine ⟨_, rfl, p, CC, dx, [], rfl, hp, TH.cl, TH.facts, (by show 0 < 1000; decide), ?_⟩
    refine ⟨_, rfl, p, CC, dx, _, rfl, upd_same, TH.cl, TH.rule, (by show 1 < 1000; decide), ?_⟩
    refine ⟨Nat.zero_le _, fun l hl => ?_⟩
    have hl0 : H l = none := upd_none (upd_none hl)
    have npl : p ≠ l := ne_of_none hp hl0
    refine ⟨_, rfl, p, CC, dx, _, rfl, (upd_ne npl).trans upd_same, TH.cl, TH.deeds, (by rw [show putF "rule" (V.int 0) (putF "facts" (V.int 0) []) = [(("facts" : Str), V.int 0), (("rule" : Str), V.int 0)] from put_past (by decide +kernel)]; show 2 < 1000; decide), ?_⟩
    refine k _ l ?_ hl0 ?_ fun b o e hb => ?_
    · rw [upd_same]
      exact congrArg (fun q => some (HO.ins CC dx q)) (hF_new l)
    · rw [upd_ne npl.symm, upd_same]
    · rw [upd_ne hb, upd_ne (ne_of_none e hl0), upd_ne hb, upd_ne hb]
      exact e
theorem ok_answers {kk : Nat} {f : Addr} {fd : FuncData} (F : Fun K "answers" "answers" s_answers f fd) (N : Cn mg) (O_call_end : Ok P w K mg base "call_end" ["calls", "at"] 1 (spEnd K)) (O_answer_call : Ok P w K mg base "answer_call" ["held", "number", "told"] kk (spCall K CC CD)) (O_Copies : OkMk P w K mg base "Copies" CC ["self"] 1 (spCopies CC)) (hk : 2 ≤ kk) :
    FnOk P w K mg base CX0 (kk + 1) f fd ["calls"] (spAnswers K) := by
  obtain ⟨f_call_end, fd_call_end, G_call_end, g_call_end, k_call_end, b_call_end⟩ := O_call_end
  obtain ⟨f_answer_call, fd_answer_call, G_answer_call, g_answer_call, k_answer_call, b_answer_call⟩ := O_answer_call
  obtain ⟨f_Copies, fd_Copies, M_Copies, G_Copies, g_Copies, b_Copies⟩ := O_Copies
  refine F.ok sc_answers (fun vs H Q E h => ?_) (fun cdv A outer s H vs Q E hr h => ?_)
  · obtain ⟨l, xs, rfl, _⟩ := h
    rfl
  · obtain ⟨l, xs, rfl, hl, hpos, h420, hask, hQ⟩ := h
    obtain ⟨qs0, hx, hgood, hans, hlong⟩ := Ka.answers_run hpos hask
    have hr_call_end : Room 1 _ := hr.mono (by omega)
    have hr_Copies : Room 2 _ := hr.mono hk
    have hr_answer_call : Room kk _ := hr
    have enV : xs.map V.int = nV (Ka.flat qs0) := by
      rw [hx]
      unfold Ka.cast nV
      rw [List.map_map]
      rfl
    rw [enV] at hl
    have hn : (Ka.flat qs0).length ≤ 420 := by
      have : xs.length = (Ka.flat qs0).length := by
        rw [hx]
        exact List.length_map _
      omega
    generalize PyKh411.answers xs = out at hans hlong hQ
    generalize ens : Ka.flat qs0 = ns at hl hn
    refine ⟨_, (pss_cons (ps_set (i := 1) sc_answers.nd rfl (Or.inl rfl) (pe_make0 M_Copies G_Copies hr_Copies rfl g_Copies b_Copies .nil pass0))
        (pss_cons (ps_set (i := 2) sc_answers.nd rfl (Or.inl rfl) (pe_lst pa_nil))
        (pss_cons (ps_set (i := 3) sc_answers.nd rfl (Or.inl rfl) pe_int)
        (pss_cons (ps_while PassesOwn.never (pt_cmpR op_lt (pv 3) (pe_callB call_len_seq (by rfl) N.len PySem.boot_len (pa_cons (pv 0) pa_nil)) (nomark _)) (pss_cons (ps_set (i := 4) sc_answers.nd rfl (Or.inl rfl) (pe_call G_call_end hr_call_end rfl g_call_end k_call_end b_call_end .nil pass0 (pa_cons (pv 0) (pa_cons (pv 3) pa_nil))))
        (pss_cons (ps_set (i := 5) sc_answers.nd rfl (Or.inl rfl) (pe_call G_answer_call hr_answer_call rfl g_answer_call k_answer_call b_answer_call .nil pass0 (pa_cons (pv 1) (pa_cons (pe_ix ix_list (pv 0) (pv 3) (fun _ _ => rfl)) (pa_cons (pe_slice sl_list (pv 0) (po_some (pe_op op_add (pv 3) pe_int)) (po_some (pv 4))) pa_nil)))))
        (pss_cons (ps_expr (pe_bm PySem.F.plainAttrs_list PySem.F.slot_list_append PySem.F.type_list_append mt_append (pv 2) (pa_cons (pe_callB call_len_seq (by rfl) N.len PySem.boot_len (pa_cons (pv 5) pa_nil)) pa_nil)))
        (pss_cons (ps_expr (pe_bm PySem.F.plainAttrs_list PySem.F.slot_list_extend PySem.F.type_list_extend mt_extend (pv 2) (pa_cons (pv 5) pa_nil)))
        (pss_one (ps_set (i := 3) sc_answers.nd rfl (Or.inl rfl) (pv 4))))))))
        (pss_one (ps_ret (pv 2))))))), ?_⟩
    intro x dx nx ndx nex
    refine ⟨x, dx, rfl, upd_same, fun H1 L hx1 hL0 hL1 kx => ⟨rfl, ?_⟩⟩
    have s1 : Same H H1 := Same.made nx ndx kx
    have hLx : H L = none := upd_none (upd_none hL0)
    refine ⟨Nat.zero_le _, fun g hg => ?_⟩
    have s2 : Same H (upd H1 g (.lst [])) := Same.none_upd s1 (s1.free hg)
    have ngL : g ≠ L := (ne_of_none hL1 hg).symm
    have hH1 : HeldAt CC CD H1 x L (absOf none) := ⟨⟨dx, hx1⟩, [], hL1, trivial⟩
    have hH2 : HeldAt CC CD (upd H1 g (.lst [])) x L (absOf none) := hH1.same (Same.new hg)
    have hg2 : (upd H1 g (.lst [])) g = some (.lst []) := upd_same
    have hg0 : H g = none := s1.free hg
    generalize upd H1 g (.lst []) = H2 at s2 hH2 hg2 ⊢
    refine set_name ?_
    dsimp only
    refine set_name ?_
    dsimp only
    refine seq_while ?_
    refine while_by (fun σ H' => ∃ (at_ : Nat) (L : Addr) (st : Option Abs) (qs : List Ka.One) (gs : List Int) (v4 v5 : Option V), σ = [some (.ref l), some (.ref x), some (.ref g), some (.int (at_ : Int)), v4, v5] ∧ Same H H' ∧ HeldAt CC CD H' x L (absOf st) ∧ WfS st ∧ H L = none ∧ g ≠ L ∧ H' g = some (.lst (gs.map V.int)) ∧ at_ ≤ ns.length ∧ ns.drop at_ = Ka.flat qs ∧ (∀ q ∈ qs, Ka.Good q) ∧ gs ++ Ka.run st qs = out)
      (fun σ _ => muA ns.length σ) ⟨0, L, none, qs0, [], none, none, rfl, s2, hH2, trivial, hLx, ngL, hg2, Nat.zero_le _, ens.symm, hgood, hans.symm⟩ ?_ (fun σ H Q Q' m h => ?_)
    · rintro σ H3 ⟨at_, L3, st, qs, gs, v4, v5, rfl, s3, hH3, hwf, hL3, ngL3, hg3, hat, hdrop, hgd, hrun⟩
      refine ⟨_, rfl, _, rfl, l, _, rfl, .inl (s3.seq hl), _, _, rfl, rfl, _, rfl, ?_⟩
      rw [nV_len]
      by_cases c : at_ < ns.length
      · rw [decide_eq_true (show (at_ : Int) < ((ns.length : Nat) : Int) by omega)]
        refine iteT ?_
        cases qs with
        | nil =>
          exfalso
          have : (ns.drop at_).length = 0 := by rw [hdrop]; rfl
          rw [List.length_drop] at this
          omega
        | cons q qs =>
          have gq := hgd q List.mem_cons_self
          obtain ⟨p, a, cl⟩ := q
          have hp : ns[at_]? = some p := flat_at (i := 0) hdrop rfl
          have hend : at_ + 1 + a.length ≤ ns.length := by
            have : (ns.drop at_).length = (Ka.flat ((p, a, cl) :: qs)).length := by rw [hdrop]
            rw [List.length_drop] at this
            have e : (Ka.flat ((p, a, cl) :: qs)).length = a.length + 1 + (Ka.flat qs).length := by
              show ((p :: a) ++ Ka.flat qs).length = _
              rw [List.length_append]
              rfl
            omega
          have hrest : ns.drop (at_ + 1 + a.length) = Ka.flat qs := by
            have : (ns.drop at_).drop (1 + a.length) = Ka.flat qs := by
              rw [hdrop]
              show ((p :: a) ++ Ka.flat qs).drop (1 + a.length) = _
              rw [Nat.add_comm]
              exact List.drop_left' rfl
            rw [List.drop_drop] at this
            rw [show at_ + 1 + a.length = at_ + (1 + a.length) by omega]
            exact this
          have hcut : cutV (nV ns) (some ((at_ : Int) + 1)) (some ((at_ + 1 + a.length : Nat) : Int)) = nV a := by
            rw [show (at_ : Int) + 1 = ((at_ + 1 : Nat) : Int) by omega, cut_mid (by rw [nV_len]; omega) (by rw [nV_len]; omega)]
            have e1 : ns.drop (at_ + 1) = a ++ Ka.flat qs := by
              have : (ns.drop at_).drop 1 = a ++ Ka.flat qs := by
                rw [hdrop]
                rfl
              rw [List.drop_drop] at this
              exact this
            have e2 : (nV ns).drop (at_ + 1) = nV (ns.drop (at_ + 1)) := by
              unfold nV
              rw [List.map_drop]
            rw [e2, e1, nV_app, show at_ + 1 + a.length - (at_ + 1) = (nV a).length by rw [nV_len]; omega]
            exact List.take_left' rfl
          refine ⟨_, rfl, _, rfl, l, at_, ns, (p, a, cl), qs, rfl, s3.seq hl, hdrop, gq, ?_⟩
          refine ⟨_, rfl, _, rfl, _, rfl, l, _, _, _, rfl, rfl, s3.seq hl, nV_get hp, _, rfl, _, rfl, _, _, rfl, rfl, _, rfl, _, rfl, _, rfl, l, _, rfl, s3.seq hl, fun t ht => ?_⟩
          have ea : (p, a, cl).snd.fst.length = a.length := rfl
          rw [ea, hcut]
          have s4 : Same H3 (upd H3 t (.lst (nV a))) := Same.new ht
          have ht4 : (upd H3 t (.lst (nV a))) t = some (.lst (nV a)) := upd_same
          generalize upd H3 t (.lst (nV a)) = H4 at s4 ht4 ⊢
          have hH4 := hH3.same s4
          have hg4 := s4 _ _ hg3
          refine ⟨x, t, L3, st, p, a, cl, rfl, hH4, hwf, SqL.of ht4, gq.1, fun H5 r L5 hkp hL5 hA hr0 hr5 => ?_⟩
          have s34 := s3.trans s4
          have s5 : Same H H5 := fun b o e => hkp b o (s34 b o e) (ne_of_none e nx) (ne_of_none e hL3)
          have ngx : g ≠ x := by
            obtain ⟨dx4, e⟩ := hH4.obj
            exact ne_of hg4 e (by intro z; cases z)
          have hg5 : H5 g = some (.lst (gs.map V.int)) := hkp g _ hg4 ngx ngL3
          have hL5' : H L5 = none := by
            rcases hL5 with e | e
            · rw [e]; exact hL3
            · exact s34.free e
          have ngL5 : g ≠ L5 := by
            rcases hL5 with e | e
            · rw [e]; exact ngL3
            · exact ne_of_none hg4 e
          have ngr : g ≠ r := ne_of_none hg4 hr0
          have er : ansV (Kh411.doing st cl).2 = (Ka.ansL (Kh411.doing st cl).2).map V.int := rfl
          have hwf5 := wf_doing hwf cl
          rw [er] at hr5
          rw [Ka.run_cons] at hrun
          have hrun' : gs ++ (((Ka.ansL (Kh411.doing st cl).2).length : Int) :: (Ka.ansL (Kh411.doing st cl).2 ++ Ka.run (Kh411.doing st cl).1 qs)) = out := hrun
          generalize Ka.ansL (Kh411.doing st cl).2 = an at hr5 hrun'
          have hlens : gs.length + (an.length + 1) ≤ 10000000 := by
            have : out.length = gs.length + (an.length + (Ka.run (Kh411.doing st cl).1 qs).length + 1) := by
              rw [← hrun', List.length_append, List.length_cons, List.length_append]
            omega
          refine ⟨_, rfl, .inl ⟨rfl, _, SqL.of hg5⟩, _, rfl, r, _, rfl, .inl (SqL.of hr5), g, _, _, rfl, rfl, hg5, big_lt (by rw [List.length_map]; omega), ?_⟩
          refine ⟨_, rfl, .inl ⟨rfl, _, SqL.of upd_same⟩, _, rfl, g, r, _, _, rfl, rfl, upd_same, (upd_ne ngr.symm).trans hr5, big_ok ?_, ?_⟩
          · rw [List.length_append, List.length_map, List.length_map]
            show gs.length + 1 + an.length ≤ _
            omega
          refine ⟨_, rfl, ⟨at_ + 1 + a.length, L5, _, qs, gs ++ ((an.length : Int) :: an), _, _, rfl, ?_, ?_, hwf5, hL5', ngL5, ?_, hend, hrest, fun q hq => hgd q (List.mem_cons_of_mem _ hq), ?_⟩, ?_⟩
          · exact Same.none_upd (Same.none_upd s5 hg0) hg0
          · exact HeldAt.upd_list (HeldAt.upd_list hA hg5 ngL5) upd_same ngL5
          · rw [upd_same, List.map_append, List.append_assoc, List.length_map]
            rfl
          · rw [List.append_assoc]
            exact hrun'
          · show ns.length - ((at_ + 1 + a.length : Nat) : Int).toNat < ns.length - ((at_ : Nat) : Int).toNat
            rw [Int.toNat_natCast, Int.toNat_natCast]
            omega
      · rw [decide_eq_false (show ¬ (at_ : Int) < ((ns.length : Nat) : Int) by omega)]
        have : qs = [] := flat_nil (by rw [← hdrop, List.drop_eq_nil_of_le (by omega)])
        subst this
        have : gs = out := by
          rw [← hrun]
          exact (List.append_nil gs).symm
        subst this
        exact iteF ⟨_, rfl, hQ _ g hg3⟩
    · obtain ⟨v, e, v2, e2, l2, xs2, e3, hh, i, j, e4, e5, k, e6, q⟩ := h
      exact ⟨v, e, v2, e2, l2, xs2, e3, hh, i, j, e4, e5, k, e6, m _ _ q⟩
end
end Kp
-- KpFin
namespace Kp
open PySem PySem.Spec PyProof.Rows L2
open Kh411 (Deed Abs Call Ans)
theorem held_of {P : Program} {w : World} {K : PySem.W.Frag} {mg : Str → Option Value} {base : Heap} {x : Str} {ps : List Str} {k kk : Nat} {sp : Sp} {f : Addr} (O : Ok P w K mg base x ps k sp) (g : mg x = some (.ref f)) (hk : k ≤ kk) : Held P w K mg base kk f sp := by
  obtain ⟨f', fd, F, g', kp, b⟩ := O
  have e := g'.symm.trans g
  cases e
  exact ⟨fd, ps, F.mono hk, kp, b⟩
theorem held_imp {P : Program} {w : World} {K : PySem.W.Frag} {mg : Str → Option Value} {base : Heap} {k : Nat} {f CC CD : Addr} {mk mk' : List Nat → Option Call} (O : Held P w K mg base k f (spH K CC CD mk)) (h : ∀ ns c, mk' ns = some c → mk ns = some c) : Held P w K mg base k f (spH K CC CD mk') := by
  obtain ⟨fd, ps, F, kp, b⟩ := O
  refine ⟨fd, ps, F.imp fun vs H Q E q => ?_, kp, b⟩
  obtain ⟨x, t, L, a, ns, c, h1, h2, h3, h4, h5, h6⟩ := q
  exact ⟨x, t, L, a, ns, c, h1, h2, h3, h4, h _ _ h5, h6⟩
theorem all_mk {P : Program} {w : World} {K : PySem.W.Frag} {h : Heap} {mg : Str → Option Value} {fa : Addr} (X : K.In h) (G : h.Ns mainGlobals mg) (hfa : mg "answers" = some (.ref fa))
    {CD : Addr}
    {CC : Addr}
    {f_Deed_init : Addr} {od_Deed_init an_Deed_init : Option Addr} {sl_Deed_init : Array (Option Value)} {oc_Deed_init kV_Deed_init dc_Deed_init pm_Deed_init cd_Deed_init ct_Deed_init : Value}
    {f_is_in : Addr} {od_is_in an_is_in : Option Addr} {sl_is_in : Array (Option Value)} {oc_is_in kV_is_in dc_is_in pm_is_in cd_is_in ct_is_in : Value}
    {f_how_many_in : Addr} {od_how_many_in an_how_many_in : Option Addr} {sl_how_many_in : Array (Option Value)} {oc_how_many_in kV_how_many_in dc_how_many_in pm_how_many_in cd_how_many_in ct_how_many_in : Value}
    {f_how_many_states : Addr} {od_how_many_states an_how_many_states : Option Addr} {sl_how_many_states : Array (Option Value)} {oc_how_many_states kV_how_many_states dc_how_many_states pm_how_many_states cd_how_many_states ct_how_many_states : Value}
    {f_all_states : Addr} {od_all_states an_all_states : Option Addr} {sl_all_states : Array (Option Value)} {oc_all_states kV_all_states dc_all_states pm_all_states cd_all_states ct_all_states : Value}
    {f_has_other_facts : Addr} {od_has_other_facts an_has_other_facts : Option Addr} {sl_has_other_facts : Array (Option Value)} {oc_has_other_facts kV_has_other_facts dc_has_other_facts pm_has_other_facts cd_has_other_facts ct_has_other_facts : Value}
    {f_has_other_states : Addr} {od_has_other_states an_has_other_states : Option Addr} {sl_has_other_states : Array (Option Value)} {oc_has_other_states kV_has_other_states dc_has_other_states pm_has_other_states cd_has_other_states ct_has_other_states : Value}
    {f_is_deed : Addr} {od_is_deed an_is_deed : Option Addr} {sl_is_deed : Array (Option Value)} {oc_is_deed kV_is_deed dc_is_deed pm_is_deed cd_is_deed ct_is_deed : Value}
    {f_is_let : Addr} {od_is_let an_is_let : Option Addr} {sl_is_let : Array (Option Value)} {oc_is_let kV_is_let dc_is_let pm_is_let cd_is_let ct_is_let : Value}
    {f_states_let : Addr} {od_states_let an_states_let : Option Addr} {sl_states_let : Array (Option Value)} {oc_states_let kV_states_let dc_states_let pm_states_let cd_states_let ct_states_let : Value}
    {f_has_what_it_needs : Addr} {od_has_what_it_needs an_has_what_it_needs : Option Addr} {sl_has_what_it_needs : Array (Option Value)} {oc_has_what_it_needs kV_has_what_it_needs dc_has_what_it_needs pm_has_what_it_needs cd_has_what_it_needs ct_has_what_it_needs : Value}
    {f_state_after : Addr} {od_state_after an_state_after : Option Addr} {sl_state_after : Array (Option Value)} {oc_state_after kV_state_after dc_state_after pm_state_after cd_state_after ct_state_after : Value}
    {f_can_be_done : Addr} {od_can_be_done an_can_be_done : Option Addr} {sl_can_be_done : Array (Option Value)} {oc_can_be_done kV_can_be_done dc_can_be_done pm_can_be_done cd_can_be_done ct_can_be_done : Value}
    {f_states_reached : Addr} {od_states_reached an_states_reached : Option Addr} {sl_states_reached : Array (Option Value)} {oc_states_reached kV_states_reached dc_states_reached pm_states_reached cd_states_reached ct_states_reached : Value}
    {f_put_together : Addr} {od_put_together an_put_together : Option Addr} {sl_put_together : Array (Option Value)} {oc_put_together kV_put_together dc_put_together pm_put_together cd_put_together ct_put_together : Value}
    {f_first_rows : Addr} {od_first_rows an_first_rows : Option Addr} {sl_first_rows : Array (Option Value)} {oc_first_rows kV_first_rows dc_first_rows pm_first_rows cd_first_rows ct_first_rows : Value}
    {f_first_breaking_row : Addr} {od_first_breaking_row an_first_breaking_row : Option Addr} {sl_first_breaking_row : Array (Option Value)} {oc_first_breaking_row kV_first_breaking_row dc_first_breaking_row pm_first_breaking_row cd_first_breaking_row ct_first_breaking_row : Value}
    {f_first_break : Addr} {od_first_break an_first_break : Option Addr} {sl_first_break : Array (Option Value)} {oc_first_break kV_first_break dc_first_break pm_first_break cd_first_break ct_first_break : Value}
    {f_fewest_that_break : Addr} {od_fewest_that_break an_fewest_that_break : Option Addr} {sl_fewest_that_break : Array (Option Value)} {oc_fewest_that_break kV_fewest_that_break dc_fewest_that_break pm_fewest_that_break cd_fewest_that_break ct_fewest_that_break : Value}
    {f_first_clash : Addr} {od_first_clash an_first_clash : Option Addr} {sl_first_clash : Array (Option Value)} {oc_first_clash kV_first_clash dc_first_clash pm_first_clash cd_first_clash ct_first_clash : Value}
    {f_twos_that_clash : Addr} {od_twos_that_clash an_twos_that_clash : Option Addr} {sl_twos_that_clash : Array (Option Value)} {oc_twos_that_clash kV_twos_that_clash dc_twos_that_clash pm_twos_that_clash cd_twos_that_clash ct_twos_that_clash : Value}
    {f_states_together : Addr} {od_states_together an_states_together : Option Addr} {sl_states_together : Array (Option Value)} {oc_states_together kV_states_together dc_states_together pm_states_together cd_states_together ct_states_together : Value}
    {f_are_free : Addr} {od_are_free an_are_free : Option Addr} {sl_are_free : Array (Option Value)} {oc_are_free kV_are_free dc_are_free pm_are_free cd_are_free ct_are_free : Value}
    {f_all_deeds : Addr} {od_all_deeds an_all_deeds : Option Addr} {sl_all_deeds : Array (Option Value)} {oc_all_deeds kV_all_deeds dc_all_deeds pm_all_deeds cd_all_deeds ct_all_deeds : Value}
    {f_has_other_deeds : Addr} {od_has_other_deeds an_has_other_deeds : Option Addr} {sl_has_other_deeds : Array (Option Value)} {oc_has_other_deeds kV_has_other_deeds dc_has_other_deeds pm_has_other_deeds cd_has_other_deeds ct_has_other_deeds : Value}
    {f_deeds_in : Addr} {od_deeds_in an_deeds_in : Option Addr} {sl_deeds_in : Array (Option Value)} {oc_deeds_in kV_deeds_in dc_deeds_in pm_deeds_in cd_deeds_in ct_deeds_in : Value}
    {f_lies_in_one : Addr} {od_lies_in_one an_lies_in_one : Option Addr} {sl_lies_in_one : Array (Option Value)} {oc_lies_in_one kV_lies_in_one dc_lies_in_one pm_lies_in_one cd_lies_in_one ct_lies_in_one : Value}
    {f_most_free_sets : Addr} {od_most_free_sets an_most_free_sets : Option Addr} {sl_most_free_sets : Array (Option Value)} {oc_most_free_sets kV_most_free_sets dc_most_free_sets pm_most_free_sets cd_most_free_sets ct_most_free_sets : Value}
    {f_fewest_asked_sets : Addr} {od_fewest_asked_sets an_fewest_asked_sets : Option Addr} {sl_fewest_asked_sets : Array (Option Value)} {oc_fewest_asked_sets kV_fewest_asked_sets dc_fewest_asked_sets pm_fewest_asked_sets cd_fewest_asked_sets ct_fewest_asked_sets : Value}
    {f_first_opening : Addr} {od_first_opening an_first_opening : Option Addr} {sl_first_opening : Array (Option Value)} {oc_first_opening kV_first_opening dc_first_opening pm_first_opening cd_first_opening ct_first_opening : Value}
    {f_Copies_init : Addr} {od_Copies_init an_Copies_init : Option Addr} {sl_Copies_init : Array (Option Value)} {oc_Copies_init kV_Copies_init dc_Copies_init pm_Copies_init cd_Copies_init ct_Copies_init : Value}
    {f_is_begun : Addr} {od_is_begun an_is_begun : Option Addr} {sl_is_begun : Array (Option Value)} {oc_is_begun kV_is_begun dc_is_begun pm_is_begun cd_is_begun ct_is_begun : Value}
    {f_has_deed : Addr} {od_has_deed an_has_deed : Option Addr} {sl_has_deed : Array (Option Value)} {oc_has_deed kV_has_deed dc_has_deed pm_has_deed cd_has_deed ct_has_deed : Value}
    {f_is_state : Addr} {od_is_state an_is_state : Option Addr} {sl_is_state : Array (Option Value)} {oc_is_state kV_is_state dc_is_state pm_is_state cd_is_state ct_is_state : Value}
    {f_is_count_of_copies : Addr} {od_is_count_of_copies an_is_count_of_copies : Option Addr} {sl_is_count_of_copies : Array (Option Value)} {oc_is_count_of_copies kV_is_count_of_copies dc_is_count_of_copies pm_is_count_of_copies cd_is_count_of_copies ct_is_count_of_copies : Value}
    {f_yes_or_no : Addr} {od_yes_or_no an_yes_or_no : Option Addr} {sl_yes_or_no : Array (Option Value)} {oc_yes_or_no kV_yes_or_no dc_yes_or_no pm_yes_or_no cd_yes_or_no ct_yes_or_no : Value}
    {f_answer_begin : Addr} {od_answer_begin an_answer_begin : Option Addr} {sl_answer_begin : Array (Option Value)} {oc_answer_begin kV_answer_begin dc_answer_begin pm_answer_begin cd_answer_begin ct_answer_begin : Value}
    {f_answer_rule : Addr} {od_answer_rule an_answer_rule : Option Addr} {sl_answer_rule : Array (Option Value)} {oc_answer_rule kV_answer_rule dc_answer_rule pm_answer_rule cd_answer_rule ct_answer_rule : Value}
    {f_answer_deed : Addr} {od_answer_deed an_answer_deed : Option Addr} {sl_answer_deed : Array (Option Value)} {oc_answer_deed kV_answer_deed dc_answer_deed pm_answer_deed cd_answer_deed ct_answer_deed : Value}
    {f_answer_drop : Addr} {od_answer_drop an_answer_drop : Option Addr} {sl_answer_drop : Array (Option Value)} {oc_answer_drop kV_answer_drop dc_answer_drop pm_answer_drop cd_answer_drop ct_answer_drop : Value}
    {f_answer_deed_is : Addr} {od_answer_deed_is an_answer_deed_is : Option Addr} {sl_answer_deed_is : Array (Option Value)} {oc_answer_deed_is kV_answer_deed_is dc_answer_deed_is pm_answer_deed_is cd_answer_deed_is ct_answer_deed_is : Value}
    {f_answer_let : Addr} {od_answer_let an_answer_let : Option Addr} {sl_answer_let : Array (Option Value)} {oc_answer_let kV_answer_let dc_answer_let pm_answer_let cd_answer_let ct_answer_let : Value}
    {f_answer_does : Addr} {od_answer_does an_answer_does : Option Addr} {sl_answer_does : Array (Option Value)} {oc_answer_does kV_answer_does dc_answer_does pm_answer_does cd_answer_does ct_answer_does : Value}
    {f_answer_reach : Addr} {od_answer_reach an_answer_reach : Option Addr} {sl_answer_reach : Array (Option Value)} {oc_answer_reach kV_answer_reach dc_answer_reach pm_answer_reach cd_answer_reach ct_answer_reach : Value}
    {f_answer_together : Addr} {od_answer_together an_answer_together : Option Addr} {sl_answer_together : Array (Option Value)} {oc_answer_together kV_answer_together dc_answer_together pm_answer_together cd_answer_together ct_answer_together : Value}
    {f_answer_keeps : Addr} {od_answer_keeps an_answer_keeps : Option Addr} {sl_answer_keeps : Array (Option Value)} {oc_answer_keeps kV_answer_keeps dc_answer_keeps pm_answer_keeps cd_answer_keeps ct_answer_keeps : Value}
    {f_answer_broken : Addr} {od_answer_broken an_answer_broken : Option Addr} {sl_answer_broken : Array (Option Value)} {oc_answer_broken kV_answer_broken dc_answer_broken pm_answer_broken cd_answer_broken ct_answer_broken : Value}
    {f_answer_fewest : Addr} {od_answer_fewest an_answer_fewest : Option Addr} {sl_answer_fewest : Array (Option Value)} {oc_answer_fewest kV_answer_fewest dc_answer_fewest pm_answer_fewest cd_answer_fewest ct_answer_fewest : Value}
    {f_answer_broken_at : Addr} {od_answer_broken_at an_answer_broken_at : Option Addr} {sl_answer_broken_at : Array (Option Value)} {oc_answer_broken_at kV_answer_broken_at dc_answer_broken_at pm_answer_broken_at cd_answer_broken_at ct_answer_broken_at : Value}
    {f_answer_clash : Addr} {od_answer_clash an_answer_clash : Option Addr} {sl_answer_clash : Array (Option Value)} {oc_answer_clash kV_answer_clash dc_answer_clash pm_answer_clash cd_answer_clash ct_answer_clash : Value}
    {f_answer_clashes : Addr} {od_answer_clashes an_answer_clashes : Option Addr} {sl_answer_clashes : Array (Option Value)} {oc_answer_clashes kV_answer_clashes dc_answer_clashes pm_answer_clashes cd_answer_clashes ct_answer_clashes : Value}
    {f_answer_free : Addr} {od_answer_free an_answer_free : Option Addr} {sl_answer_free : Array (Option Value)} {oc_answer_free kV_answer_free dc_answer_free pm_answer_free cd_answer_free ct_answer_free : Value}
    {f_answer_most_free : Addr} {od_answer_most_free an_answer_most_free : Option Addr} {sl_answer_most_free : Array (Option Value)} {oc_answer_most_free kV_answer_most_free dc_answer_most_free pm_answer_most_free cd_answer_most_free ct_answer_most_free : Value}
    {f_answer_asked : Addr} {od_answer_asked an_answer_asked : Option Addr} {sl_answer_asked : Array (Option Value)} {oc_answer_asked kV_answer_asked dc_answer_asked pm_answer_asked cd_answer_asked ct_answer_asked : Value}
    {f_answer_alone : Addr} {od_answer_alone an_answer_alone : Option Addr} {sl_answer_alone : Array (Option Value)} {oc_answer_alone kV_answer_alone dc_answer_alone pm_answer_alone cd_answer_alone ct_answer_alone : Value}
    {f_answer_closed : Addr} {od_answer_closed an_answer_closed : Option Addr} {sl_answer_closed : Array (Option Value)} {oc_answer_closed kV_answer_closed dc_answer_closed pm_answer_closed cd_answer_closed ct_answer_closed : Value}
    {f_answer_open_states : Addr} {od_answer_open_states an_answer_open_states : Option Addr} {sl_answer_open_states : Array (Option Value)} {oc_answer_open_states kV_answer_open_states dc_answer_open_states pm_answer_open_states cd_answer_open_states ct_answer_open_states : Value}
    {f_answer_state : Addr} {od_answer_state an_answer_state : Option Addr} {sl_answer_state : Array (Option Value)} {oc_answer_state kV_answer_state dc_answer_state pm_answer_state cd_answer_state ct_answer_state : Value}
    {f_call_end : Addr} {od_call_end an_call_end : Option Addr} {sl_call_end : Array (Option Value)} {oc_call_end kV_call_end dc_call_end pm_call_end cd_call_end ct_call_end : Value}
    {f_answer_call : Addr} {od_answer_call an_answer_call : Option Addr} {sl_answer_call : Array (Option Value)} {oc_answer_call kV_answer_call dc_answer_call pm_answer_call cd_answer_call ct_answer_call : Value}
    {f_answers : Addr} {od_answers an_answers : Option Addr} {sl_answers : Array (Option Value)} {oc_answers kV_answers dc_answers pm_answers cd_answers ct_answers : Value}
    {t_NOT_BEGUN : Tok}
    {t_NO_SUCH_DEED : Tok}
    {t_NOT_AS_TOLD : Tok}
    {t_NO_MORE_DEEDS : Tok}
    {t_NEED_NOT_SO : Tok}
    {t_BEGINS_NOT_LET : Tok}
    {t_NOT_LET : Tok}
    {t_IS_KEPT : Tok}
    {t_NO_CLASH : Tok}
    {t_IS_CLOSED : Tok}
    {t_MOST_FACTS : Tok}
    {t_MOST_DEEDS : Tok}
    {t_MOST_COPIES : Tok}
    {t_BEGIN : Tok}
    {t_TOGETHER : Tok}
    {TT : Addr} {dTT : Option Addr} {mTT : Nat} {sTT : Array (Option Value)}
    {e0 e1 e2 e3 e4 e5 e6 e7 e8 e9 e10 e11 e12 e13 e14 e15 e16 e17 e18 e19 e20 e21 : Addr}
    {d0 : Option Addr} {m0 : Nat} {s0 : Array (Option Value)} {t0 : Tok}
    {d1 : Option Addr} {m1 : Nat} {s1 : Array (Option Value)} {t1 : Tok}
    {d2 : Option Addr} {m2 : Nat} {s2 : Array (Option Value)} {t2 : Tok}
    {d3 : Option Addr} {m3 : Nat} {s3 : Array (Option Value)} {t3 : Tok}
    {d4 : Option Addr} {m4 : Nat} {s4 : Array (Option Value)} {t4 : Tok}
    {d5 : Option Addr} {m5 : Nat} {s5 : Array (Option Value)} {t5 : Tok}
    {d6 : Option Addr} {m6 : Nat} {s6 : Array (Option Value)} {t6 : Tok}
    {d7 : Option Addr} {m7 : Nat} {s7 : Array (Option Value)} {t7 : Tok}
    {d8 : Option Addr} {m8 : Nat} {s8 : Array (Option Value)} {t8 : Tok}
    {d9 : Option Addr} {m9 : Nat} {s9 : Array (Option Value)} {t9 : Tok}
    {d10 : Option Addr} {m10 : Nat} {s10 : Array (Option Value)} {t10 : Tok}
    {d11 : Option Addr} {m11 : Nat} {s11 : Array (Option Value)} {t11 : Tok}
    {d12 : Option Addr} {m12 : Nat} {s12 : Array (Option Value)} {t12 : Tok}
    {d13 : Option Addr} {m13 : Nat} {s13 : Array (Option Value)} {t13 : Tok}
    {d14 : Option Addr} {m14 : Nat} {s14 : Array (Option Value)} {t14 : Tok}
    {d15 : Option Addr} {m15 : Nat} {s15 : Array (Option Value)} {t15 : Tok}
    {d16 : Option Addr} {m16 : Nat} {s16 : Array (Option Value)} {t16 : Tok}
    {d17 : Option Addr} {m17 : Nat} {s17 : Array (Option Value)} {t17 : Tok}
    {d18 : Option Addr} {m18 : Nat} {s18 : Array (Option Value)} {t18 : Tok}
    {d19 : Option Addr} {m19 : Nat} {s19 : Array (Option Value)} {t19 : Tok}
    {d20 : Option Addr} {m20 : Nat} {s20 : Array (Option Value)} {t20 : Tok}
    {d21 : Option Addr} {m21 : Nat} {s21 : Array (Option Value)} {t21 : Tok}
    (a_Deed : PySem.W.nsIn K mainGlobals "Deed" = some (some (.ref CD)))
    (pg_Deed : PySem.W.plainGet K CD Str.empty = true)
    (hd_Deed : PySem.W.hasDictIn K CD = true)
    (po_Deed : PySem.W.plainOver K CD = true)
    (sa_Deed : PySem.W.findIn K (.ref CD) "__setattr__" = some (some (.builtin "object.__setattr__")))
    (mk_Deed : PySem.W.makesIn K CD = true)
    (kc_Deed : PySem.W.keepIn K (.ref CD) = true)
    (n_Deed_need : PySem.W.findIn K (.ref CD) "need" = some none)
    (n_Deed_be : PySem.W.findIn K (.ref CD) "be" = some none)
    (n_Deed_on : PySem.W.findIn K (.ref CD) "on" = some none)
    (n_Deed_off : PySem.W.findIn K (.ref CD) "off" = some none)
    (a_Copies : PySem.W.nsIn K mainGlobals "Copies" = some (some (.ref CC)))
    (pg_Copies : PySem.W.plainGet K CC Str.empty = true)
    (hd_Copies : PySem.W.hasDictIn K CC = true)
    (po_Copies : PySem.W.plainOver K CC = true)
    (sa_Copies : PySem.W.findIn K (.ref CC) "__setattr__" = some (some (.builtin "object.__setattr__")))
    (mk_Copies : PySem.W.makesIn K CC = true)
    (kc_Copies : PySem.W.keepIn K (.ref CC) = true)
    (n_Copies_facts : PySem.W.findIn K (.ref CC) "facts" = some none)
    (n_Copies_rule : PySem.W.findIn K (.ref CC) "rule" = some none)
    (n_Copies_deeds : PySem.W.findIn K (.ref CC) "deeds" = some none)
    (a_Deed_init : PySem.W.findIn K (.ref CD) "__init__" = some (some (.ref f_Deed_init)))
    (i_Deed_init : PySem.W.isFn K (.ref f_Deed_init) = true)
    (l_Deed_init : K.lookup f_Deed_init = some ⟨oc_Deed_init, od_Deed_init, .func (PySem.W.fnOf "__init__" "Deed.__init__" (defArgs s_Deed_init) (defBody s_Deed_init) (defScope s_Deed_init) .none kV_Deed_init dc_Deed_init pm_Deed_init an_Deed_init cd_Deed_init ct_Deed_init), sl_Deed_init⟩)
    (c_Deed_init : PySem.W.codeIn K cd_Deed_init "Deed.__init__" = true)
    (k_Deed_init : PySem.W.keepIn K (.ref f_Deed_init) = true)
    (a_is_in : PySem.W.nsIn K mainGlobals "is_in" = some (some (.ref f_is_in)))
    (l_is_in : K.lookup f_is_in = some ⟨oc_is_in, od_is_in, .func (PySem.W.fnOf "is_in" "is_in" (defArgs s_is_in) (defBody s_is_in) (defScope s_is_in) .none kV_is_in dc_is_in pm_is_in an_is_in cd_is_in ct_is_in), sl_is_in⟩)
    (c_is_in : PySem.W.codeIn K cd_is_in "is_in" = true)
    (k_is_in : PySem.W.keepIn K (.ref f_is_in) = true)
    (a_how_many_in : PySem.W.nsIn K mainGlobals "how_many_in" = some (some (.ref f_how_many_in)))
    (l_how_many_in : K.lookup f_how_many_in = some ⟨oc_how_many_in, od_how_many_in, .func (PySem.W.fnOf "how_many_in" "how_many_in" (defArgs s_how_many_in) (defBody s_how_many_in) (defScope s_how_many_in) .none kV_how_many_in dc_how_many_in pm_how_many_in an_how_many_in cd_how_many_in ct_how_many_in), sl_how_many_in⟩)
    (c_how_many_in : PySem.W.codeIn K cd_how_many_in "how_many_in" = true)
    (k_how_many_in : PySem.W.keepIn K (.ref f_how_many_in) = true)
    (a_how_many_states : PySem.W.nsIn K mainGlobals "how_many_states" = some (some (.ref f_how_many_states)))
    (l_how_many_states : K.lookup f_how_many_states = some ⟨oc_how_many_states, od_how_many_states, .func (PySem.W.fnOf "how_many_states" "how_many_states" (defArgs s_how_many_states) (defBody s_how_many_states) (defScope s_how_many_states) .none kV_how_many_states dc_how_many_states pm_how_many_states an_how_many_states cd_how_many_states ct_how_many_states), sl_how_many_states⟩)
    (c_how_many_states : PySem.W.codeIn K cd_how_many_states "how_many_states" = true)
    (k_how_many_states : PySem.W.keepIn K (.ref f_how_many_states) = true)
    (a_all_states : PySem.W.nsIn K mainGlobals "all_states" = some (some (.ref f_all_states)))
    (l_all_states : K.lookup f_all_states = some ⟨oc_all_states, od_all_states, .func (PySem.W.fnOf "all_states" "all_states" (defArgs s_all_states) (defBody s_all_states) (defScope s_all_states) .none kV_all_states dc_all_states pm_all_states an_all_states cd_all_states ct_all_states), sl_all_states⟩)
    (c_all_states : PySem.W.codeIn K cd_all_states "all_states" = true)
    (k_all_states : PySem.W.keepIn K (.ref f_all_states) = true)
    (a_has_other_facts : PySem.W.nsIn K mainGlobals "has_other_facts" = some (some (.ref f_has_other_facts)))
    (l_has_other_facts : K.lookup f_has_other_facts = some ⟨oc_has_other_facts, od_has_other_facts, .func (PySem.W.fnOf "has_other_facts" "has_other_facts" (defArgs s_has_other_facts) (defBody s_has_other_facts) (defScope s_has_other_facts) .none kV_has_other_facts dc_has_other_facts pm_has_other_facts an_has_other_facts cd_has_other_facts ct_has_other_facts), sl_has_other_facts⟩)
    (c_has_other_facts : PySem.W.codeIn K cd_has_other_facts "has_other_facts" = true)
    (k_has_other_facts : PySem.W.keepIn K (.ref f_has_other_facts) = true)
    (a_has_other_states : PySem.W.nsIn K mainGlobals "has_other_states" = some (some (.ref f_has_other_states)))
    (l_has_other_states : K.lookup f_has_other_states = some ⟨oc_has_other_states, od_has_other_states, .func (PySem.W.fnOf "has_other_states" "has_other_states" (defArgs s_has_other_states) (defBody s_has_other_states) (defScope s_has_other_states) .none kV_has_other_states dc_has_other_states pm_has_other_states an_has_other_states cd_has_other_states ct_has_other_states), sl_has_other_states⟩)
    (c_has_other_states : PySem.W.codeIn K cd_has_other_states "has_other_states" = true)
    (k_has_other_states : PySem.W.keepIn K (.ref f_has_other_states) = true)
    (a_is_deed : PySem.W.nsIn K mainGlobals "is_deed" = some (some (.ref f_is_deed)))
    (l_is_deed : K.lookup f_is_deed = some ⟨oc_is_deed, od_is_deed, .func (PySem.W.fnOf "is_deed" "is_deed" (defArgs s_is_deed) (defBody s_is_deed) (defScope s_is_deed) .none kV_is_deed dc_is_deed pm_is_deed an_is_deed cd_is_deed ct_is_deed), sl_is_deed⟩)
    (c_is_deed : PySem.W.codeIn K cd_is_deed "is_deed" = true)
    (k_is_deed : PySem.W.keepIn K (.ref f_is_deed) = true)
    (a_is_let : PySem.W.nsIn K mainGlobals "is_let" = some (some (.ref f_is_let)))
    (l_is_let : K.lookup f_is_let = some ⟨oc_is_let, od_is_let, .func (PySem.W.fnOf "is_let" "is_let" (defArgs s_is_let) (defBody s_is_let) (defScope s_is_let) .none kV_is_let dc_is_let pm_is_let an_is_let cd_is_let ct_is_let), sl_is_let⟩)
    (c_is_let : PySem.W.codeIn K cd_is_let "is_let" = true)
    (k_is_let : PySem.W.keepIn K (.ref f_is_let) = true)
    (a_states_let : PySem.W.nsIn K mainGlobals "states_let" = some (some (.ref f_states_let)))
    (l_states_let : K.lookup f_states_let = some ⟨oc_states_let, od_states_let, .func (PySem.W.fnOf "states_let" "states_let" (defArgs s_states_let) (defBody s_states_let) (defScope s_states_let) .none kV_states_let dc_states_let pm_states_let an_states_let cd_states_let ct_states_let), sl_states_let⟩)
    (c_states_let : PySem.W.codeIn K cd_states_let "states_let" = true)
    (k_states_let : PySem.W.keepIn K (.ref f_states_let) = true)
    (a_has_what_it_needs : PySem.W.nsIn K mainGlobals "has_what_it_needs" = some (some (.ref f_has_what_it_needs)))
    (l_has_what_it_needs : K.lookup f_has_what_it_needs = some ⟨oc_has_what_it_needs, od_has_what_it_needs, .func (PySem.W.fnOf "has_what_it_needs" "has_what_it_needs" (defArgs s_has_what_it_needs) (defBody s_has_what_it_needs) (defScope s_has_what_it_needs) .none kV_has_what_it_needs dc_has_what_it_needs pm_has_what_it_needs an_has_what_it_needs cd_has_what_it_needs ct_has_what_it_needs), sl_has_what_it_needs⟩)
    (c_has_what_it_needs : PySem.W.codeIn K cd_has_what_it_needs "has_what_it_needs" = true)
    (k_has_what_it_needs : PySem.W.keepIn K (.ref f_has_what_it_needs) = true)
    (a_state_after : PySem.W.nsIn K mainGlobals "state_after" = some (some (.ref f_state_after)))
    (l_state_after : K.lookup f_state_after = some ⟨oc_state_after, od_state_after, .func (PySem.W.fnOf "state_after" "state_after" (defArgs s_state_after) (defBody s_state_after) (defScope s_state_after) .none kV_state_after dc_state_after pm_state_after an_state_after cd_state_after ct_state_after), sl_state_after⟩)
    (c_state_after : PySem.W.codeIn K cd_state_after "state_after" = true)
    (k_state_after : PySem.W.keepIn K (.ref f_state_after) = true)
    (a_can_be_done : PySem.W.nsIn K mainGlobals "can_be_done" = some (some (.ref f_can_be_done)))
    (l_can_be_done : K.lookup f_can_be_done = some ⟨oc_can_be_done, od_can_be_done, .func (PySem.W.fnOf "can_be_done" "can_be_done" (defArgs s_can_be_done) (defBody s_can_be_done) (defScope s_can_be_done) .none kV_can_be_done dc_can_be_done pm_can_be_done an_can_be_done cd_can_be_done ct_can_be_done), sl_can_be_done⟩)
    (c_can_be_done : PySem.W.codeIn K cd_can_be_done "can_be_done" = true)
    (k_can_be_done : PySem.W.keepIn K (.ref f_can_be_done) = true)
    (a_states_reached : PySem.W.nsIn K mainGlobals "states_reached" = some (some (.ref f_states_reached)))
    (l_states_reached : K.lookup f_states_reached = some ⟨oc_states_reached, od_states_reached, .func (PySem.W.fnOf "states_reached" "states_reached" (defArgs s_states_reached) (defBody s_states_reached) (defScope s_states_reached) .none kV_states_reached dc_states_reached pm_states_reached an_states_reached cd_states_reached ct_states_reached), sl_states_reached⟩)
    (c_states_reached : PySem.W.codeIn K cd_states_reached "states_reached" = true)
    (k_states_reached : PySem.W.keepIn K (.ref f_states_reached) = true)
    (a_put_together : PySem.W.nsIn K mainGlobals "put_together" = some (some (.ref f_put_together)))
    (l_put_together : K.lookup f_put_together = some ⟨oc_put_together, od_put_together, .func (PySem.W.fnOf "put_together" "put_together" (defArgs s_put_together) (defBody s_put_together) (defScope s_put_together) .none kV_put_together dc_put_together pm_put_together an_put_together cd_put_together ct_put_together), sl_put_together⟩)
    (c_put_together : PySem.W.codeIn K cd_put_together "put_together" = true)
    (k_put_together : PySem.W.keepIn K (.ref f_put_together) = true)
    (a_first_rows : PySem.W.nsIn K mainGlobals "first_rows" = some (some (.ref f_first_rows)))
    (l_first_rows : K.lookup f_first_rows = some ⟨oc_first_rows, od_first_rows, .func (PySem.W.fnOf "first_rows" "first_rows" (defArgs s_first_rows) (defBody s_first_rows) (defScope s_first_rows) .none kV_first_rows dc_first_rows pm_first_rows an_first_rows cd_first_rows ct_first_rows), sl_first_rows⟩)
    (c_first_rows : PySem.W.codeIn K cd_first_rows "first_rows" = true)
    (k_first_rows : PySem.W.keepIn K (.ref f_first_rows) = true)
    (a_first_breaking_row : PySem.W.nsIn K mainGlobals "first_breaking_row" = some (some (.ref f_first_breaking_row)))
    (l_first_breaking_row : K.lookup f_first_breaking_row = some ⟨oc_first_breaking_row, od_first_breaking_row, .func (PySem.W.fnOf "first_breaking_row" "first_breaking_row" (defArgs s_first_breaking_row) (defBody s_first_breaking_row) (defScope s_first_breaking_row) .none kV_first_breaking_row dc_first_breaking_row pm_first_breaking_row an_first_breaking_row cd_first_breaking_row ct_first_breaking_row), sl_first_breaking_row⟩)
    (c_first_breaking_row : PySem.W.codeIn K cd_first_breaking_row "first_breaking_row" = true)
    (k_first_breaking_row : PySem.W.keepIn K (.ref f_first_breaking_row) = true)
    (a_first_break : PySem.W.nsIn K mainGlobals "first_break" = some (some (.ref f_first_break)))
    (l_first_break : K.lookup f_first_break = some ⟨oc_first_break, od_first_break, .func (PySem.W.fnOf "first_break" "first_break" (defArgs s_first_break) (defBody s_first_break) (defScope s_first_break) .none kV_first_break dc_first_break pm_first_break an_first_break cd_first_break ct_first_break), sl_first_break⟩)
    (c_first_break : PySem.W.codeIn K cd_first_break "first_break" = true)
    (k_first_break : PySem.W.keepIn K (.ref f_first_break) = true)
    (a_fewest_that_break : PySem.W.nsIn K mainGlobals "fewest_that_break" = some (some (.ref f_fewest_that_break)))
    (l_fewest_that_break : K.lookup f_fewest_that_break = some ⟨oc_fewest_that_break, od_fewest_that_break, .func (PySem.W.fnOf "fewest_that_break" "fewest_that_break" (defArgs s_fewest_that_break) (defBody s_fewest_that_break) (defScope s_fewest_that_break) .none kV_fewest_that_break dc_fewest_that_break pm_fewest_that_break an_fewest_that_break cd_fewest_that_break ct_fewest_that_break), sl_fewest_that_break⟩)
    (c_fewest_that_break : PySem.W.codeIn K cd_fewest_that_break "fewest_that_break" = true)
    (k_fewest_that_break : PySem.W.keepIn K (.ref f_fewest_that_break) = true)
    (a_first_clash : PySem.W.nsIn K mainGlobals "first_clash" = some (some (.ref f_first_clash)))
    (l_first_clash : K.lookup f_first_clash = some ⟨oc_first_clash, od_first_clash, .func (PySem.W.fnOf "first_clash" "first_clash" (defArgs s_first_clash) (defBody s_first_clash) (defScope s_first_clash) .none kV_first_clash dc_first_clash pm_first_clash an_first_clash cd_first_clash ct_first_clash), sl_first_clash⟩)
    (c_first_clash : PySem.W.codeIn K cd_first_clash "first_clash" = true)
    (k_first_clash : PySem.W.keepIn K (.ref f_first_clash) = true)
    (a_twos_that_clash : PySem.W.nsIn K mainGlobals "twos_that_clash" = some (some (.ref f_twos_that_clash)))
    (l_twos_that_clash : K.lookup f_twos_that_clash = some ⟨oc_twos_that_clash, od_twos_that_clash, .func (PySem.W.fnOf "twos_that_clash" "twos_that_clash" (defArgs s_twos_that_clash) (defBody s_twos_that_clash) (defScope s_twos_that_clash) .none kV_twos_that_clash dc_twos_that_clash pm_twos_that_clash an_twos_that_clash cd_twos_that_clash ct_twos_that_clash), sl_twos_that_clash⟩)
    (c_twos_that_clash : PySem.W.codeIn K cd_twos_that_clash "twos_that_clash" = true)
    (k_twos_that_clash : PySem.W.keepIn K (.ref f_twos_that_clash) = true)
    (a_states_together : PySem.W.nsIn K mainGlobals "states_together" = some (some (.ref f_states_together)))
    (l_states_together : K.lookup f_states_together = some ⟨oc_states_together, od_states_together, .func (PySem.W.fnOf "states_together" "states_together" (defArgs s_states_together) (defBody s_states_together) (defScope s_states_together) .none kV_states_together dc_states_together pm_states_together an_states_together cd_states_together ct_states_together), sl_states_together⟩)
    (c_states_together : PySem.W.codeIn K cd_states_together "states_together" = true)
    (k_states_together : PySem.W.keepIn K (.ref f_states_together) = true)
    (a_are_free : PySem.W.nsIn K mainGlobals "are_free" = some (some (.ref f_are_free)))
    (l_are_free : K.lookup f_are_free = some ⟨oc_are_free, od_are_free, .func (PySem.W.fnOf "are_free" "are_free" (defArgs s_are_free) (defBody s_are_free) (defScope s_are_free) .none kV_are_free dc_are_free pm_are_free an_are_free cd_are_free ct_are_free), sl_are_free⟩)
    (c_are_free : PySem.W.codeIn K cd_are_free "are_free" = true)
    (k_are_free : PySem.W.keepIn K (.ref f_are_free) = true)
    (a_all_deeds : PySem.W.nsIn K mainGlobals "all_deeds" = some (some (.ref f_all_deeds)))
    (l_all_deeds : K.lookup f_all_deeds = some ⟨oc_all_deeds, od_all_deeds, .func (PySem.W.fnOf "all_deeds" "all_deeds" (defArgs s_all_deeds) (defBody s_all_deeds) (defScope s_all_deeds) .none kV_all_deeds dc_all_deeds pm_all_deeds an_all_deeds cd_all_deeds ct_all_deeds), sl_all_deeds⟩)
    (c_all_deeds : PySem.W.codeIn K cd_all_deeds "all_deeds" = true)
    (k_all_deeds : PySem.W.keepIn K (.ref f_all_deeds) = true)
    (a_has_other_deeds : PySem.W.nsIn K mainGlobals "has_other_deeds" = some (some (.ref f_has_other_deeds)))
    (l_has_other_deeds : K.lookup f_has_other_deeds = some ⟨oc_has_other_deeds, od_has_other_deeds, .func (PySem.W.fnOf "has_other_deeds" "has_other_deeds" (defArgs s_has_other_deeds) (defBody s_has_other_deeds) (defScope s_has_other_deeds) .none kV_has_other_deeds dc_has_other_deeds pm_has_other_deeds an_has_other_deeds cd_has_other_deeds ct_has_other_deeds), sl_has_other_deeds⟩)
    (c_has_other_deeds : PySem.W.codeIn K cd_has_other_deeds "has_other_deeds" = true)
    (k_has_other_deeds : PySem.W.keepIn K (.ref f_has_other_deeds) = true)
    (a_deeds_in : PySem.W.nsIn K mainGlobals "deeds_in" = some (some (.ref f_deeds_in)))
    (l_deeds_in : K.lookup f_deeds_in = some ⟨oc_deeds_in, od_deeds_in, .func (PySem.W.fnOf "deeds_in" "deeds_in" (defArgs s_deeds_in) (defBody s_deeds_in) (defScope s_deeds_in) .none kV_deeds_in dc_deeds_in pm_deeds_in an_deeds_in cd_deeds_in ct_deeds_in), sl_deeds_in⟩)
    (c_deeds_in : PySem.W.codeIn K cd_deeds_in "deeds_in" = true)
    (k_deeds_in : PySem.W.keepIn K (.ref f_deeds_in) = true)
    (a_lies_in_one : PySem.W.nsIn K mainGlobals "lies_in_one" = some (some (.ref f_lies_in_one)))
    (l_lies_in_one : K.lookup f_lies_in_one = some ⟨oc_lies_in_one, od_lies_in_one, .func (PySem.W.fnOf "lies_in_one" "lies_in_one" (defArgs s_lies_in_one) (defBody s_lies_in_one) (defScope s_lies_in_one) .none kV_lies_in_one dc_lies_in_one pm_lies_in_one an_lies_in_one cd_lies_in_one ct_lies_in_one), sl_lies_in_one⟩)
    (c_lies_in_one : PySem.W.codeIn K cd_lies_in_one "lies_in_one" = true)
    (k_lies_in_one : PySem.W.keepIn K (.ref f_lies_in_one) = true)
    (a_most_free_sets : PySem.W.nsIn K mainGlobals "most_free_sets" = some (some (.ref f_most_free_sets)))
    (l_most_free_sets : K.lookup f_most_free_sets = some ⟨oc_most_free_sets, od_most_free_sets, .func (PySem.W.fnOf "most_free_sets" "most_free_sets" (defArgs s_most_free_sets) (defBody s_most_free_sets) (defScope s_most_free_sets) .none kV_most_free_sets dc_most_free_sets pm_most_free_sets an_most_free_sets cd_most_free_sets ct_most_free_sets), sl_most_free_sets⟩)
    (c_most_free_sets : PySem.W.codeIn K cd_most_free_sets "most_free_sets" = true)
    (k_most_free_sets : PySem.W.keepIn K (.ref f_most_free_sets) = true)
    (a_fewest_asked_sets : PySem.W.nsIn K mainGlobals "fewest_asked_sets" = some (some (.ref f_fewest_asked_sets)))
    (l_fewest_asked_sets : K.lookup f_fewest_asked_sets = some ⟨oc_fewest_asked_sets, od_fewest_asked_sets, .func (PySem.W.fnOf "fewest_asked_sets" "fewest_asked_sets" (defArgs s_fewest_asked_sets) (defBody s_fewest_asked_sets) (defScope s_fewest_asked_sets) .none kV_fewest_asked_sets dc_fewest_asked_sets pm_fewest_asked_sets an_fewest_asked_sets cd_fewest_asked_sets ct_fewest_asked_sets), sl_fewest_asked_sets⟩)
    (c_fewest_asked_sets : PySem.W.codeIn K cd_fewest_asked_sets "fewest_asked_sets" = true)
    (k_fewest_asked_sets : PySem.W.keepIn K (.ref f_fewest_asked_sets) = true)
    (a_first_opening : PySem.W.nsIn K mainGlobals "first_opening" = some (some (.ref f_first_opening)))
    (l_first_opening : K.lookup f_first_opening = some ⟨oc_first_opening, od_first_opening, .func (PySem.W.fnOf "first_opening" "first_opening" (defArgs s_first_opening) (defBody s_first_opening) (defScope s_first_opening) .none kV_first_opening dc_first_opening pm_first_opening an_first_opening cd_first_opening ct_first_opening), sl_first_opening⟩)
    (c_first_opening : PySem.W.codeIn K cd_first_opening "first_opening" = true)
    (k_first_opening : PySem.W.keepIn K (.ref f_first_opening) = true)
    (a_Copies_init : PySem.W.findIn K (.ref CC) "__init__" = some (some (.ref f_Copies_init)))
    (i_Copies_init : PySem.W.isFn K (.ref f_Copies_init) = true)
    (l_Copies_init : K.lookup f_Copies_init = some ⟨oc_Copies_init, od_Copies_init, .func (PySem.W.fnOf "__init__" "Copies.__init__" (defArgs s_Copies_init) (defBody s_Copies_init) (defScope s_Copies_init) .none kV_Copies_init dc_Copies_init pm_Copies_init an_Copies_init cd_Copies_init ct_Copies_init), sl_Copies_init⟩)
    (c_Copies_init : PySem.W.codeIn K cd_Copies_init "Copies.__init__" = true)
    (k_Copies_init : PySem.W.keepIn K (.ref f_Copies_init) = true)
    (a_is_begun : PySem.W.nsIn K mainGlobals "is_begun" = some (some (.ref f_is_begun)))
    (l_is_begun : K.lookup f_is_begun = some ⟨oc_is_begun, od_is_begun, .func (PySem.W.fnOf "is_begun" "is_begun" (defArgs s_is_begun) (defBody s_is_begun) (defScope s_is_begun) .none kV_is_begun dc_is_begun pm_is_begun an_is_begun cd_is_begun ct_is_begun), sl_is_begun⟩)
    (c_is_begun : PySem.W.codeIn K cd_is_begun "is_begun" = true)
    (k_is_begun : PySem.W.keepIn K (.ref f_is_begun) = true)
    (a_has_deed : PySem.W.nsIn K mainGlobals "has_deed" = some (some (.ref f_has_deed)))
    (l_has_deed : K.lookup f_has_deed = some ⟨oc_has_deed, od_has_deed, .func (PySem.W.fnOf "has_deed" "has_deed" (defArgs s_has_deed) (defBody s_has_deed) (defScope s_has_deed) .none kV_has_deed dc_has_deed pm_has_deed an_has_deed cd_has_deed ct_has_deed), sl_has_deed⟩)
    (c_has_deed : PySem.W.codeIn K cd_has_deed "has_deed" = true)
    (k_has_deed : PySem.W.keepIn K (.ref f_has_deed) = true)
    (a_is_state : PySem.W.nsIn K mainGlobals "is_state" = some (some (.ref f_is_state)))
    (l_is_state : K.lookup f_is_state = some ⟨oc_is_state, od_is_state, .func (PySem.W.fnOf "is_state" "is_state" (defArgs s_is_state) (defBody s_is_state) (defScope s_is_state) .none kV_is_state dc_is_state pm_is_state an_is_state cd_is_state ct_is_state), sl_is_state⟩)
    (c_is_state : PySem.W.codeIn K cd_is_state "is_state" = true)
    (k_is_state : PySem.W.keepIn K (.ref f_is_state) = true)
    (a_is_count_of_copies : PySem.W.nsIn K mainGlobals "is_count_of_copies" = some (some (.ref f_is_count_of_copies)))
    (l_is_count_of_copies : K.lookup f_is_count_of_copies = some ⟨oc_is_count_of_copies, od_is_count_of_copies, .func (PySem.W.fnOf "is_count_of_copies" "is_count_of_copies" (defArgs s_is_count_of_copies) (defBody s_is_count_of_copies) (defScope s_is_count_of_copies) .none kV_is_count_of_copies dc_is_count_of_copies pm_is_count_of_copies an_is_count_of_copies cd_is_count_of_copies ct_is_count_of_copies), sl_is_count_of_copies⟩)
    (c_is_count_of_copies : PySem.W.codeIn K cd_is_count_of_copies "is_count_of_copies" = true)
    (k_is_count_of_copies : PySem.W.keepIn K (.ref f_is_count_of_copies) = true)
    (a_yes_or_no : PySem.W.nsIn K mainGlobals "yes_or_no" = some (some (.ref f_yes_or_no)))
    (l_yes_or_no : K.lookup f_yes_or_no = some ⟨oc_yes_or_no, od_yes_or_no, .func (PySem.W.fnOf "yes_or_no" "yes_or_no" (defArgs s_yes_or_no) (defBody s_yes_or_no) (defScope s_yes_or_no) .none kV_yes_or_no dc_yes_or_no pm_yes_or_no an_yes_or_no cd_yes_or_no ct_yes_or_no), sl_yes_or_no⟩)
    (c_yes_or_no : PySem.W.codeIn K cd_yes_or_no "yes_or_no" = true)
    (k_yes_or_no : PySem.W.keepIn K (.ref f_yes_or_no) = true)
    (a_answer_begin : PySem.W.nsIn K mainGlobals "answer_begin" = some (some (.ref f_answer_begin)))
    (l_answer_begin : K.lookup f_answer_begin = some ⟨oc_answer_begin, od_answer_begin, .func (PySem.W.fnOf "answer_begin" "answer_begin" (defArgs s_answer_begin) (defBody s_answer_begin) (defScope s_answer_begin) .none kV_answer_begin dc_answer_begin pm_answer_begin an_answer_begin cd_answer_begin ct_answer_begin), sl_answer_begin⟩)
    (c_answer_begin : PySem.W.codeIn K cd_answer_begin "answer_begin" = true)
    (k_answer_begin : PySem.W.keepIn K (.ref f_answer_begin) = true)
    (a_answer_rule : PySem.W.nsIn K mainGlobals "answer_rule" = some (some (.ref f_answer_rule)))
    (l_answer_rule : K.lookup f_answer_rule = some ⟨oc_answer_rule, od_answer_rule, .func (PySem.W.fnOf "answer_rule" "answer_rule" (defArgs s_answer_rule) (defBody s_answer_rule) (defScope s_answer_rule) .none kV_answer_rule dc_answer_rule pm_answer_rule an_answer_rule cd_answer_rule ct_answer_rule), sl_answer_rule⟩)
    (c_answer_rule : PySem.W.codeIn K cd_answer_rule "answer_rule" = true)
    (k_answer_rule : PySem.W.keepIn K (.ref f_answer_rule) = true)
    (a_answer_deed : PySem.W.nsIn K mainGlobals "answer_deed" = some (some (.ref f_answer_deed)))
    (l_answer_deed : K.lookup f_answer_deed = some ⟨oc_answer_deed, od_answer_deed, .func (PySem.W.fnOf "answer_deed" "answer_deed" (defArgs s_answer_deed) (defBody s_answer_deed) (defScope s_answer_deed) .none kV_answer_deed dc_answer_deed pm_answer_deed an_answer_deed cd_answer_deed ct_answer_deed), sl_answer_deed⟩)
    (c_answer_deed : PySem.W.codeIn K cd_answer_deed "answer_deed" = true)
    (k_answer_deed : PySem.W.keepIn K (.ref f_answer_deed) = true)
    (a_answer_drop : PySem.W.nsIn K mainGlobals "answer_drop" = some (some (.ref f_answer_drop)))
    (l_answer_drop : K.lookup f_answer_drop = some ⟨oc_answer_drop, od_answer_drop, .func (PySem.W.fnOf "answer_drop" "answer_drop" (defArgs s_answer_drop) (defBody s_answer_drop) (defScope s_answer_drop) .none kV_answer_drop dc_answer_drop pm_answer_drop an_answer_drop cd_answer_drop ct_answer_drop), sl_answer_drop⟩)
    (c_answer_drop : PySem.W.codeIn K cd_answer_drop "answer_drop" = true)
    (k_answer_drop : PySem.W.keepIn K (.ref f_answer_drop) = true)
    (a_answer_deed_is : PySem.W.nsIn K mainGlobals "answer_deed_is" = some (some (.ref f_answer_deed_is)))
    (l_answer_deed_is : K.lookup f_answer_deed_is = some ⟨oc_answer_deed_is, od_answer_deed_is, .func (PySem.W.fnOf "answer_deed_is" "answer_deed_is" (defArgs s_answer_deed_is) (defBody s_answer_deed_is) (defScope s_answer_deed_is) .none kV_answer_deed_is dc_answer_deed_is pm_answer_deed_is an_answer_deed_is cd_answer_deed_is ct_answer_deed_is), sl_answer_deed_is⟩)
    (c_answer_deed_is : PySem.W.codeIn K cd_answer_deed_is "answer_deed_is" = true)
    (k_answer_deed_is : PySem.W.keepIn K (.ref f_answer_deed_is) = true)
    (a_answer_let : PySem.W.nsIn K mainGlobals "answer_let" = some (some (.ref f_answer_let)))
    (l_answer_let : K.lookup f_answer_let = some ⟨oc_answer_let, od_answer_let, .func (PySem.W.fnOf "answer_let" "answer_let" (defArgs s_answer_let) (defBody s_answer_let) (defScope s_answer_let) .none kV_answer_let dc_answer_let pm_answer_let an_answer_let cd_answer_let ct_answer_let), sl_answer_let⟩)
    (c_answer_let : PySem.W.codeIn K cd_answer_let "answer_let" = true)
    (k_answer_let : PySem.W.keepIn K (.ref f_answer_let) = true)
    (a_answer_does : PySem.W.nsIn K mainGlobals "answer_does" = some (some (.ref f_answer_does)))
    (l_answer_does : K.lookup f_answer_does = some ⟨oc_answer_does, od_answer_does, .func (PySem.W.fnOf "answer_does" "answer_does" (defArgs s_answer_does) (defBody s_answer_does) (defScope s_answer_does) .none kV_answer_does dc_answer_does pm_answer_does an_answer_does cd_answer_does ct_answer_does), sl_answer_does⟩)
    (c_answer_does : PySem.W.codeIn K cd_answer_does "answer_does" = true)
    (k_answer_does : PySem.W.keepIn K (.ref f_answer_does) = true)
    (a_answer_reach : PySem.W.nsIn K mainGlobals "answer_reach" = some (some (.ref f_answer_reach)))
    (l_answer_reach : K.lookup f_answer_reach = some ⟨oc_answer_reach, od_answer_reach, .func (PySem.W.fnOf "answer_reach" "answer_reach" (defArgs s_answer_reach) (defBody s_answer_reach) (defScope s_answer_reach) .none kV_answer_reach dc_answer_reach pm_answer_reach an_answer_reach cd_answer_reach ct_answer_reach), sl_answer_reach⟩)
    (c_answer_reach : PySem.W.codeIn K cd_answer_reach "answer_reach" = true)
    (k_answer_reach : PySem.W.keepIn K (.ref f_answer_reach) = true)
    (a_answer_together : PySem.W.nsIn K mainGlobals "answer_together" = some (some (.ref f_answer_together)))
    (l_answer_together : K.lookup f_answer_together = some ⟨oc_answer_together, od_answer_together, .func (PySem.W.fnOf "answer_together" "answer_together" (defArgs s_answer_together) (defBody s_answer_together) (defScope s_answer_together) .none kV_answer_together dc_answer_together pm_answer_together an_answer_together cd_answer_together ct_answer_together), sl_answer_together⟩)
    (c_answer_together : PySem.W.codeIn K cd_answer_together "answer_together" = true)
    (k_answer_together : PySem.W.keepIn K (.ref f_answer_together) = true)
    (a_answer_keeps : PySem.W.nsIn K mainGlobals "answer_keeps" = some (some (.ref f_answer_keeps)))
    (l_answer_keeps : K.lookup f_answer_keeps = some ⟨oc_answer_keeps, od_answer_keeps, .func (PySem.W.fnOf "answer_keeps" "answer_keeps" (defArgs s_answer_keeps) (defBody s_answer_keeps) (defScope s_answer_keeps) .none kV_answer_keeps dc_answer_keeps pm_answer_keeps an_answer_keeps cd_answer_keeps ct_answer_keeps), sl_answer_keeps⟩)
    (c_answer_keeps : PySem.W.codeIn K cd_answer_keeps "answer_keeps" = true)
    (k_answer_keeps : PySem.W.keepIn K (.ref f_answer_keeps) = true)
    (a_answer_broken : PySem.W.nsIn K mainGlobals "answer_broken" = some (some (.ref f_answer_broken)))
    (l_answer_broken : K.lookup f_answer_broken = some ⟨oc_answer_broken, od_answer_broken, .func (PySem.W.fnOf "answer_broken" "answer_broken" (defArgs s_answer_broken) (defBody s_answer_broken) (defScope s_answer_broken) .none kV_answer_broken dc_answer_broken pm_answer_broken an_answer_broken cd_answer_broken ct_answer_broken), sl_answer_broken⟩)
    (c_answer_broken : PySem.W.codeIn K cd_answer_broken "answer_broken" = true)
    (k_answer_broken : PySem.W.keepIn K (.ref f_answer_broken) = true)
    (a_answer_fewest : PySem.W.nsIn K mainGlobals "answer_fewest" = some (some (.ref f_answer_fewest)))
    (l_answer_fewest : K.lookup f_answer_fewest = some ⟨oc_answer_fewest, od_answer_fewest, .func (PySem.W.fnOf "answer_fewest" "answer_fewest" (defArgs s_answer_fewest) (defBody s_answer_fewest) (defScope s_answer_fewest) .none kV_answer_fewest dc_answer_fewest pm_answer_fewest an_answer_fewest cd_answer_fewest ct_answer_fewest), sl_answer_fewest⟩)
    (c_answer_fewest : PySem.W.codeIn K cd_answer_fewest "answer_fewest" = true)
    (k_answer_fewest : PySem.W.keepIn K (.ref f_answer_fewest) = true)
    (a_answer_broken_at : PySem.W.nsIn K mainGlobals "answer_broken_at" = some (some (.ref f_answer_broken_at)))
    (l_answer_broken_at : K.lookup f_answer_broken_at = some ⟨oc_answer_broken_at, od_answer_broken_at, .func (PySem.W.fnOf "answer_broken_at" "answer_broken_at" (defArgs s_answer_broken_at) (defBody s_answer_broken_at) (defScope s_answer_broken_at) .none kV_answer_broken_at dc_answer_broken_at pm_answer_broken_at an_answer_broken_at cd_answer_broken_at ct_answer_broken_at), sl_answer_broken_at⟩)
    (c_answer_broken_at : PySem.W.codeIn K cd_answer_broken_at "answer_broken_at" = true)
    (k_answer_broken_at : PySem.W.keepIn K (.ref f_answer_broken_at) = true)
    (a_answer_clash : PySem.W.nsIn K mainGlobals "answer_clash" = some (some (.ref f_answer_clash)))
    (l_answer_clash : K.lookup f_answer_clash = some ⟨oc_answer_clash, od_answer_clash, .func (PySem.W.fnOf "answer_clash" "answer_clash" (defArgs s_answer_clash) (defBody s_answer_clash) (defScope s_answer_clash) .none kV_answer_clash dc_answer_clash pm_answer_clash an_answer_clash cd_answer_clash ct_answer_clash), sl_answer_clash⟩)
    (c_answer_clash : PySem.W.codeIn K cd_answer_clash "answer_clash" = true)
    (k_answer_clash : PySem.W.keepIn K (.ref f_answer_clash) = true)
    (a_answer_clashes : PySem.W.nsIn K mainGlobals "answer_clashes" = some (some (.ref f_answer_clashes)))
    (l_answer_clashes : K.lookup f_answer_clashes = some ⟨oc_answer_clashes, od_answer_clashes, .func (PySem.W.fnOf "answer_clashes" "answer_clashes" (defArgs s_answer_clashes) (defBody s_answer_clashes) (defScope s_answer_clashes) .none kV_answer_clashes dc_answer_clashes pm_answer_clashes an_answer_clashes cd_answer_clashes ct_answer_clashes), sl_answer_clashes⟩)
    (c_answer_clashes : PySem.W.codeIn K cd_answer_clashes "answer_clashes" = true)
    (k_answer_clashes : PySem.W.keepIn K (.ref f_answer_clashes) = true)
    (a_answer_free : PySem.W.nsIn K mainGlobals "answer_free" = some (some (.ref f_answer_free)))
    (l_answer_free : K.lookup f_answer_free = some ⟨oc_answer_free, od_answer_free, .func (PySem.W.fnOf "answer_free" "answer_free" (defArgs s_answer_free) (defBody s_answer_free) (defScope s_answer_free) .none kV_answer_free dc_answer_free pm_answer_free an_answer_free cd_answer_free ct_answer_free), sl_answer_free⟩)
    (c_answer_free : PySem.W.codeIn K cd_answer_free "answer_free" = true)
    (k_answer_free : PySem.W.keepIn K (.ref f_answer_free) = true)
    (a_answer_most_free : PySem.W.nsIn K mainGlobals "answer_most_free" = some (some (.ref f_answer_most_free)))
    (l_answer_most_free : K.lookup f_answer_most_free = some ⟨oc_answer_most_free, od_answer_most_free, .func (PySem.W.fnOf "answer_most_free" "answer_most_free" (defArgs s_answer_most_free) (defBody s_answer_most_free) (defScope s_answer_most_free) .none kV_answer_most_free dc_answer_most_free pm_answer_most_free an_answer_most_free cd_answer_most_free ct_answer_most_free), sl_answer_most_free⟩)
    (c_answer_most_free : PySem.W.codeIn K cd_answer_most_free "answer_most_free" = true)
    (k_answer_most_free : PySem.W.keepIn K (.ref f_answer_most_free) = true)
    (a_answer_asked : PySem.W.nsIn K mainGlobals "answer_asked" = some (some (.ref f_answer_asked)))
    (l_answer_asked : K.lookup f_answer_asked = some ⟨oc_answer_asked, od_answer_asked, .func (PySem.W.fnOf "answer_asked" "answer_asked" (defArgs s_answer_asked) (defBody s_answer_asked) (defScope s_answer_asked) .none kV_answer_asked dc_answer_asked pm_answer_asked an_answer_asked cd_answer_asked ct_answer_asked), sl_answer_asked⟩)
    (c_answer_asked : PySem.W.codeIn K cd_answer_asked "answer_asked" = true)
    (k_answer_asked : PySem.W.keepIn K (.ref f_answer_asked) = true)
    (a_answer_alone : PySem.W.nsIn K mainGlobals "answer_alone" = some (some (.ref f_answer_alone)))
    (l_answer_alone : K.lookup f_answer_alone = some ⟨oc_answer_alone, od_answer_alone, .func (PySem.W.fnOf "answer_alone" "answer_alone" (defArgs s_answer_alone) (defBody s_answer_alone) (defScope s_answer_alone) .none kV_answer_alone dc_answer_alone pm_answer_alone an_answer_alone cd_answer_alone ct_answer_alone), sl_answer_alone⟩)
    (c_answer_alone : PySem.W.codeIn K cd_answer_alone "answer_alone" = true)
    (k_answer_alone : PySem.W.keepIn K (.ref f_answer_alone) = true)
    (a_answer_closed : PySem.W.nsIn K mainGlobals "answer_closed" = some (some (.ref f_answer_closed)))
    (l_answer_closed : K.lookup f_answer_closed = some ⟨oc_answer_closed, od_answer_closed, .func (PySem.W.fnOf "answer_closed" "answer_closed" (defArgs s_answer_closed) (defBody s_answer_closed) (defScope s_answer_closed) .none kV_answer_closed dc_answer_closed pm_answer_closed an_answer_closed cd_answer_closed ct_answer_closed), sl_answer_closed⟩)
    (c_answer_closed : PySem.W.codeIn K cd_answer_closed "answer_closed" = true)
    (k_answer_closed : PySem.W.keepIn K (.ref f_answer_closed) = true)
    (a_answer_open_states : PySem.W.nsIn K mainGlobals "answer_open_states" = some (some (.ref f_answer_open_states)))
    (l_answer_open_states : K.lookup f_answer_open_states = some ⟨oc_answer_open_states, od_answer_open_states, .func (PySem.W.fnOf "answer_open_states" "answer_open_states" (defArgs s_answer_open_states) (defBody s_answer_open_states) (defScope s_answer_open_states) .none kV_answer_open_states dc_answer_open_states pm_answer_open_states an_answer_open_states cd_answer_open_states ct_answer_open_states), sl_answer_open_states⟩)
    (c_answer_open_states : PySem.W.codeIn K cd_answer_open_states "answer_open_states" = true)
    (k_answer_open_states : PySem.W.keepIn K (.ref f_answer_open_states) = true)
    (a_answer_state : PySem.W.nsIn K mainGlobals "answer_state" = some (some (.ref f_answer_state)))
    (l_answer_state : K.lookup f_answer_state = some ⟨oc_answer_state, od_answer_state, .func (PySem.W.fnOf "answer_state" "answer_state" (defArgs s_answer_state) (defBody s_answer_state) (defScope s_answer_state) .none kV_answer_state dc_answer_state pm_answer_state an_answer_state cd_answer_state ct_answer_state), sl_answer_state⟩)
    (c_answer_state : PySem.W.codeIn K cd_answer_state "answer_state" = true)
    (k_answer_state : PySem.W.keepIn K (.ref f_answer_state) = true)
    (a_call_end : PySem.W.nsIn K mainGlobals "call_end" = some (some (.ref f_call_end)))
    (l_call_end : K.lookup f_call_end = some ⟨oc_call_end, od_call_end, .func (PySem.W.fnOf "call_end" "call_end" (defArgs s_call_end) (defBody s_call_end) (defScope s_call_end) .none kV_call_end dc_call_end pm_call_end an_call_end cd_call_end ct_call_end), sl_call_end⟩)
    (c_call_end : PySem.W.codeIn K cd_call_end "call_end" = true)
    (k_call_end : PySem.W.keepIn K (.ref f_call_end) = true)
    (a_answer_call : PySem.W.nsIn K mainGlobals "answer_call" = some (some (.ref f_answer_call)))
    (l_answer_call : K.lookup f_answer_call = some ⟨oc_answer_call, od_answer_call, .func (PySem.W.fnOf "answer_call" "answer_call" (defArgs s_answer_call) (defBody s_answer_call) (defScope s_answer_call) .none kV_answer_call dc_answer_call pm_answer_call an_answer_call cd_answer_call ct_answer_call), sl_answer_call⟩)
    (c_answer_call : PySem.W.codeIn K cd_answer_call "answer_call" = true)
    (k_answer_call : PySem.W.keepIn K (.ref f_answer_call) = true)
    (a_answers : PySem.W.nsIn K mainGlobals "answers" = some (some (.ref f_answers)))
    (l_answers : K.lookup f_answers = some ⟨oc_answers, od_answers, .func (PySem.W.fnOf "answers" "answers" (defArgs s_answers) (defBody s_answers) (defScope s_answers) .none kV_answers dc_answers pm_answers an_answers cd_answers ct_answers), sl_answers⟩)
    (c_answers : PySem.W.codeIn K cd_answers "answers" = true)
    (k_answers : PySem.W.keepIn K (.ref f_answers) = true)
    (v_NOT_BEGUN : PySem.W.nsIn K mainGlobals "NOT_BEGUN" = some (some (.int (-61) t_NOT_BEGUN)))
    (v_NO_SUCH_DEED : PySem.W.nsIn K mainGlobals "NO_SUCH_DEED" = some (some (.int (-2) t_NO_SUCH_DEED)))
    (v_NOT_AS_TOLD : PySem.W.nsIn K mainGlobals "NOT_AS_TOLD" = some (some (.int (-22) t_NOT_AS_TOLD)))
    (v_NO_MORE_DEEDS : PySem.W.nsIn K mainGlobals "NO_MORE_DEEDS" = some (some (.int (-28) t_NO_MORE_DEEDS)))
    (v_NEED_NOT_SO : PySem.W.nsIn K mainGlobals "NEED_NOT_SO" = some (some (.int (-6) t_NEED_NOT_SO)))
    (v_BEGINS_NOT_LET : PySem.W.nsIn K mainGlobals "BEGINS_NOT_LET" = some (some (.int (-6) t_BEGINS_NOT_LET)))
    (v_NOT_LET : PySem.W.nsIn K mainGlobals "NOT_LET" = some (some (.int (-33) t_NOT_LET)))
    (v_IS_KEPT : PySem.W.nsIn K mainGlobals "IS_KEPT" = some (some (.int (-33) t_IS_KEPT)))
    (v_NO_CLASH : PySem.W.nsIn K mainGlobals "NO_CLASH" = some (some (.int (-33) t_NO_CLASH)))
    (v_IS_CLOSED : PySem.W.nsIn K mainGlobals "IS_CLOSED" = some (some (.int (-33) t_IS_CLOSED)))
    (v_MOST_FACTS : PySem.W.nsIn K mainGlobals "MOST_FACTS" = some (some (.int 4 t_MOST_FACTS)))
    (v_MOST_DEEDS : PySem.W.nsIn K mainGlobals "MOST_DEEDS" = some (some (.int 6 t_MOST_DEEDS)))
    (v_MOST_COPIES : PySem.W.nsIn K mainGlobals "MOST_COPIES" = some (some (.int 4 t_MOST_COPIES)))
    (v_BEGIN : PySem.W.nsIn K mainGlobals "BEGIN" = some (some (.int 0 t_BEGIN)))
    (v_TOGETHER : PySem.W.nsIn K mainGlobals "TOGETHER" = some (some (.int 8 t_TOGETHER)))
    (z_len : PySem.W.nsIn K mainGlobals "len" = some none)
    (z_list : PySem.W.nsIn K mainGlobals "list" = some none)
    (z_min : PySem.W.nsIn K mainGlobals "min" = some none)
    (z_range : PySem.W.nsIn K mainGlobals "range" = some none)
    (z_sorted : PySem.W.nsIn K mainGlobals "sorted" = some none)
    (a_CALLS : PySem.W.nsIn K mainGlobals "CALLS" = some (some (.ref TT)))
    (l_CALLS : K.lookup TT = some ⟨.type "tuple", dTT, .seq #[.ref e0, .ref e1, .ref e2, .ref e3, .ref e4, .ref e5, .ref e6, .ref e7, .ref e8, .ref e9, .ref e10, .ref e11, .ref e12, .ref e13, .ref e14, .ref e15, .ref e16, .ref e17, .ref e18, .ref e19, .ref e20, .ref e21] mTT, sTT⟩)
    (l_e0 : K.lookup e0 = some ⟨.type "tuple", d0, .seq #[.int 1 t0, .ref f_answer_begin] m0, s0⟩)
    (l_e1 : K.lookup e1 = some ⟨.type "tuple", d1, .seq #[.int 1 t1, .ref f_answer_rule] m1, s1⟩)
    (l_e2 : K.lookup e2 = some ⟨.type "tuple", d2, .seq #[.int 4 t2, .ref f_answer_deed] m2, s2⟩)
    (l_e3 : K.lookup e3 = some ⟨.type "tuple", d3, .seq #[.int 1 t3, .ref f_answer_drop] m3, s3⟩)
    (l_e4 : K.lookup e4 = some ⟨.type "tuple", d4, .seq #[.int 1 t4, .ref f_answer_deed_is] m4, s4⟩)
    (l_e5 : K.lookup e5 = some ⟨.type "tuple", d5, .seq #[.int 1 t5, .ref f_answer_let] m5, s5⟩)
    (l_e6 : K.lookup e6 = some ⟨.type "tuple", d6, .seq #[.int 2 t6, .ref f_answer_does] m6, s6⟩)
    (l_e7 : K.lookup e7 = some ⟨.type "tuple", d7, .seq #[.int 1 t7, .ref f_answer_reach] m7, s7⟩)
    (l_e8 : K.lookup e8 = some ⟨.type "tuple", d8, .seq #[.int 1 t8, .ref f_answer_together] m8, s8⟩)
    (l_e9 : K.lookup e9 = some ⟨.type "tuple", d9, .seq #[.int 1 t9, .ref f_answer_keeps] m9, s9⟩)
    (l_e10 : K.lookup e10 = some ⟨.type "tuple", d10, .seq #[.int 1 t10, .ref f_answer_broken] m10, s10⟩)
    (l_e11 : K.lookup e11 = some ⟨.type "tuple", d11, .seq #[.int 0 t11, .ref f_answer_fewest] m11, s11⟩)
    (l_e12 : K.lookup e12 = some ⟨.type "tuple", d12, .seq #[.int 2 t12, .ref f_answer_broken_at] m12, s12⟩)
    (l_e13 : K.lookup e13 = some ⟨.type "tuple", d13, .seq #[.int 2 t13, .ref f_answer_clash] m13, s13⟩)
    (l_e14 : K.lookup e14 = some ⟨.type "tuple", d14, .seq #[.int 0 t14, .ref f_answer_clashes] m14, s14⟩)
    (l_e15 : K.lookup e15 = some ⟨.type "tuple", d15, .seq #[.int 1 t15, .ref f_answer_free] m15, s15⟩)
    (l_e16 : K.lookup e16 = some ⟨.type "tuple", d16, .seq #[.int 0 t16, .ref f_answer_most_free] m16, s16⟩)
    (l_e17 : K.lookup e17 = some ⟨.type "tuple", d17, .seq #[.int 0 t17, .ref f_answer_asked] m17, s17⟩)
    (l_e18 : K.lookup e18 = some ⟨.type "tuple", d18, .seq #[.int 1 t18, .ref f_answer_alone] m18, s18⟩)
    (l_e19 : K.lookup e19 = some ⟨.type "tuple", d19, .seq #[.int 0 t19, .ref f_answer_closed] m19, s19⟩)
    (l_e20 : K.lookup e20 = some ⟨.type "tuple", d20, .seq #[.int 0 t20, .ref f_answer_open_states] m20, s20⟩)
    (l_e21 : K.lookup e21 = some ⟨.type "tuple", d21, .seq #[.int 0 t21, .ref f_answer_state] m21, s21⟩)
    : ∃ fd : FuncData, (∀ (s : Shared) (us : List Value), us.length = (["calls"] : List Str).length → BindsTo s fd ⟨us, []⟩ ((["calls"] : List Str).zip us)) ∧ ∀ base : Heap, K.In base → base.Ns mainGlobals mg → FnOk P w K mg base CX0 10 fa fd ["calls"] (spAnswers K) := by
  have e := hfa.symm.trans (PySem.W.mg_of X G a_answers)
  cases e
  have F_Deed_init := fun_mk (st := s_Deed_init) l_Deed_init c_Deed_init k_Deed_init
  have b_Deed_init := F_Deed_init.binds (ps := ["self", "need", "be", "on", "off"]) fun _ _ _ _ _ _ us hl => match us, hl with | [_, _, _, _, _], _ => rfl
  have F_is_in := fun_mk (st := s_is_in) l_is_in c_is_in k_is_in
  have b_is_in := F_is_in.binds (ps := ["chosen", "number"]) fun _ _ _ _ _ _ us hl => match us, hl with | [_, _], _ => rfl
  have g_is_in := PySem.W.mg_of X G a_is_in
  have D_is_in : Df K mg "is_in" ["chosen", "number"] s_is_in := ⟨_, _, F_is_in, g_is_in, b_is_in⟩
  have F_how_many_in := fun_mk (st := s_how_many_in) l_how_many_in c_how_many_in k_how_many_in
  have b_how_many_in := F_how_many_in.binds (ps := ["chosen"]) fun _ _ _ _ _ _ us hl => match us, hl with | [_], _ => rfl
  have g_how_many_in := PySem.W.mg_of X G a_how_many_in
  have D_how_many_in : Df K mg "how_many_in" ["chosen"] s_how_many_in := ⟨_, _, F_how_many_in, g_how_many_in, b_how_many_in⟩
  have F_how_many_states := fun_mk (st := s_how_many_states) l_how_many_states c_how_many_states k_how_many_states
  have b_how_many_states := F_how_many_states.binds (ps := ["facts"]) fun _ _ _ _ _ _ us hl => match us, hl with | [_], _ => rfl
  have g_how_many_states := PySem.W.mg_of X G a_how_many_states
  have D_how_many_states : Df K mg "how_many_states" ["facts"] s_how_many_states := ⟨_, _, F_how_many_states, g_how_many_states, b_how_many_states⟩
  have F_all_states := fun_mk (st := s_all_states) l_all_states c_all_states k_all_states
  have b_all_states := F_all_states.binds (ps := ["facts"]) fun _ _ _ _ _ _ us hl => match us, hl with | [_], _ => rfl
  have g_all_states := PySem.W.mg_of X G a_all_states
  have D_all_states : Df K mg "all_states" ["facts"] s_all_states := ⟨_, _, F_all_states, g_all_states, b_all_states⟩
  have F_has_other_facts := fun_mk (st := s_has_other_facts) l_has_other_facts c_has_other_facts k_has_other_facts
  have b_has_other_facts := F_has_other_facts.binds (ps := ["facts", "chosen"]) fun _ _ _ _ _ _ us hl => match us, hl with | [_, _], _ => rfl
  have g_has_other_facts := PySem.W.mg_of X G a_has_other_facts
  have D_has_other_facts : Df K mg "has_other_facts" ["facts", "chosen"] s_has_other_facts := ⟨_, _, F_has_other_facts, g_has_other_facts, b_has_other_facts⟩
  have F_has_other_states := fun_mk (st := s_has_other_states) l_has_other_states c_has_other_states k_has_other_states
  have b_has_other_states := F_has_other_states.binds (ps := ["facts", "rule"]) fun _ _ _ _ _ _ us hl => match us, hl with | [_, _], _ => rfl
  have g_has_other_states := PySem.W.mg_of X G a_has_other_states
  have D_has_other_states : Df K mg "has_other_states" ["facts", "rule"] s_has_other_states := ⟨_, _, F_has_other_states, g_has_other_states, b_has_other_states⟩
  have F_is_deed := fun_mk (st := s_is_deed) l_is_deed c_is_deed k_is_deed
  have b_is_deed := F_is_deed.binds (ps := ["facts", "deed"]) fun _ _ _ _ _ _ us hl => match us, hl with | [_, _], _ => rfl
  have g_is_deed := PySem.W.mg_of X G a_is_deed
  have D_is_deed : Df K mg "is_deed" ["facts", "deed"] s_is_deed := ⟨_, _, F_is_deed, g_is_deed, b_is_deed⟩
  have F_is_let := fun_mk (st := s_is_let) l_is_let c_is_let k_is_let
  have b_is_let := F_is_let.binds (ps := ["rule", "s"]) fun _ _ _ _ _ _ us hl => match us, hl with | [_, _], _ => rfl
  have g_is_let := PySem.W.mg_of X G a_is_let
  have D_is_let : Df K mg "is_let" ["rule", "s"] s_is_let := ⟨_, _, F_is_let, g_is_let, b_is_let⟩
  have F_states_let := fun_mk (st := s_states_let) l_states_let c_states_let k_states_let
  have b_states_let := F_states_let.binds (ps := ["rule"]) fun _ _ _ _ _ _ us hl => match us, hl with | [_], _ => rfl
  have g_states_let := PySem.W.mg_of X G a_states_let
  have D_states_let : Df K mg "states_let" ["rule"] s_states_let := ⟨_, _, F_states_let, g_states_let, b_states_let⟩
  have F_has_what_it_needs := fun_mk (st := s_has_what_it_needs) l_has_what_it_needs c_has_what_it_needs k_has_what_it_needs
  have b_has_what_it_needs := F_has_what_it_needs.binds (ps := ["deed", "s"]) fun _ _ _ _ _ _ us hl => match us, hl with | [_, _], _ => rfl
  have g_has_what_it_needs := PySem.W.mg_of X G a_has_what_it_needs
  have D_has_what_it_needs : Df K mg "has_what_it_needs" ["deed", "s"] s_has_what_it_needs := ⟨_, _, F_has_what_it_needs, g_has_what_it_needs, b_has_what_it_needs⟩
  have F_state_after := fun_mk (st := s_state_after) l_state_after c_state_after k_state_after
  have b_state_after := F_state_after.binds (ps := ["deed", "s"]) fun _ _ _ _ _ _ us hl => match us, hl with | [_, _], _ => rfl
  have g_state_after := PySem.W.mg_of X G a_state_after
  have D_state_after : Df K mg "state_after" ["deed", "s"] s_state_after := ⟨_, _, F_state_after, g_state_after, b_state_after⟩
  have F_can_be_done := fun_mk (st := s_can_be_done) l_can_be_done c_can_be_done k_can_be_done
  have b_can_be_done := F_can_be_done.binds (ps := ["rule", "deed", "s"]) fun _ _ _ _ _ _ us hl => match us, hl with | [_, _, _], _ => rfl
  have g_can_be_done := PySem.W.mg_of X G a_can_be_done
  have D_can_be_done : Df K mg "can_be_done" ["rule", "deed", "s"] s_can_be_done := ⟨_, _, F_can_be_done, g_can_be_done, b_can_be_done⟩
  have F_states_reached := fun_mk (st := s_states_reached) l_states_reached c_states_reached k_states_reached
  have b_states_reached := F_states_reached.binds (ps := ["rule", "deeds", "s"]) fun _ _ _ _ _ _ us hl => match us, hl with | [_, _, _], _ => rfl
  have g_states_reached := PySem.W.mg_of X G a_states_reached
  have D_states_reached : Df K mg "states_reached" ["rule", "deeds", "s"] s_states_reached := ⟨_, _, F_states_reached, g_states_reached, b_states_reached⟩
  have F_put_together := fun_mk (st := s_put_together) l_put_together c_put_together k_put_together
  have b_put_together := F_put_together.binds (ps := ["s", "states"]) fun _ _ _ _ _ _ us hl => match us, hl with | [_, _], _ => rfl
  have g_put_together := PySem.W.mg_of X G a_put_together
  have D_put_together : Df K mg "put_together" ["s", "states"] s_put_together := ⟨_, _, F_put_together, g_put_together, b_put_together⟩
  have F_first_rows := fun_mk (st := s_first_rows) l_first_rows c_first_rows k_first_rows
  have b_first_rows := F_first_rows.binds (ps := ["s", "reached", "k"]) fun _ _ _ _ _ _ us hl => match us, hl with | [_, _, _], _ => rfl
  have g_first_rows := PySem.W.mg_of X G a_first_rows
  have D_first_rows : Df K mg "first_rows" ["s", "reached", "k"] s_first_rows := ⟨_, _, F_first_rows, g_first_rows, b_first_rows⟩
  have F_first_breaking_row := fun_mk (st := s_first_breaking_row) l_first_breaking_row c_first_breaking_row k_first_breaking_row
  have b_first_breaking_row := F_first_breaking_row.binds (ps := ["rule", "deeds", "s", "k"]) fun _ _ _ _ _ _ us hl => match us, hl with | [_, _, _, _], _ => rfl
  have g_first_breaking_row := PySem.W.mg_of X G a_first_breaking_row
  have D_first_breaking_row : Df K mg "first_breaking_row" ["rule", "deeds", "s", "k"] s_first_breaking_row := ⟨_, _, F_first_breaking_row, g_first_breaking_row, b_first_breaking_row⟩
  have F_first_break := fun_mk (st := s_first_break) l_first_break c_first_break k_first_break
  have b_first_break := F_first_break.binds (ps := ["rule", "deeds", "k"]) fun _ _ _ _ _ _ us hl => match us, hl with | [_, _, _], _ => rfl
  have g_first_break := PySem.W.mg_of X G a_first_break
  have D_first_break : Df K mg "first_break" ["rule", "deeds", "k"] s_first_break := ⟨_, _, F_first_break, g_first_break, b_first_break⟩
  have F_fewest_that_break := fun_mk (st := s_fewest_that_break) l_fewest_that_break c_fewest_that_break k_fewest_that_break
  have b_fewest_that_break := F_fewest_that_break.binds (ps := ["facts", "rule", "deeds"]) fun _ _ _ _ _ _ us hl => match us, hl with | [_, _, _], _ => rfl
  have g_fewest_that_break := PySem.W.mg_of X G a_fewest_that_break
  have D_fewest_that_break : Df K mg "fewest_that_break" ["facts", "rule", "deeds"] s_fewest_that_break := ⟨_, _, F_fewest_that_break, g_fewest_that_break, b_fewest_that_break⟩
  have F_first_clash := fun_mk (st := s_first_clash) l_first_clash c_first_clash k_first_clash
  have b_first_clash := F_first_clash.binds (ps := ["rule", "one", "other"]) fun _ _ _ _ _ _ us hl => match us, hl with | [_, _, _], _ => rfl
  have g_first_clash := PySem.W.mg_of X G a_first_clash
  have D_first_clash : Df K mg "first_clash" ["rule", "one", "other"] s_first_clash := ⟨_, _, F_first_clash, g_first_clash, b_first_clash⟩
  have F_twos_that_clash := fun_mk (st := s_twos_that_clash) l_twos_that_clash c_twos_that_clash k_twos_that_clash
  have b_twos_that_clash := F_twos_that_clash.binds (ps := ["rule", "deeds"]) fun _ _ _ _ _ _ us hl => match us, hl with | [_, _], _ => rfl
  have g_twos_that_clash := PySem.W.mg_of X G a_twos_that_clash
  have D_twos_that_clash : Df K mg "twos_that_clash" ["rule", "deeds"] s_twos_that_clash := ⟨_, _, F_twos_that_clash, g_twos_that_clash, b_twos_that_clash⟩
  have F_states_together := fun_mk (st := s_states_together) l_states_together c_states_together k_states_together
  have b_states_together := F_states_together.binds (ps := ["s", "reached"]) fun _ _ _ _ _ _ us hl => match us, hl with | [_, _], _ => rfl
  have g_states_together := PySem.W.mg_of X G a_states_together
  have D_states_together : Df K mg "states_together" ["s", "reached"] s_states_together := ⟨_, _, F_states_together, g_states_together, b_states_together⟩
  have F_are_free := fun_mk (st := s_are_free) l_are_free c_are_free k_are_free
  have b_are_free := F_are_free.binds (ps := ["rule", "deeds"]) fun _ _ _ _ _ _ us hl => match us, hl with | [_, _], _ => rfl
  have g_are_free := PySem.W.mg_of X G a_are_free
  have D_are_free : Df K mg "are_free" ["rule", "deeds"] s_are_free := ⟨_, _, F_are_free, g_are_free, b_are_free⟩
  have F_all_deeds := fun_mk (st := s_all_deeds) l_all_deeds c_all_deeds k_all_deeds
  have b_all_deeds := F_all_deeds.binds (ps := ["deeds"]) fun _ _ _ _ _ _ us hl => match us, hl with | [_], _ => rfl
  have g_all_deeds := PySem.W.mg_of X G a_all_deeds
  have D_all_deeds : Df K mg "all_deeds" ["deeds"] s_all_deeds := ⟨_, _, F_all_deeds, g_all_deeds, b_all_deeds⟩
  have F_has_other_deeds := fun_mk (st := s_has_other_deeds) l_has_other_deeds c_has_other_deeds k_has_other_deeds
  have b_has_other_deeds := F_has_other_deeds.binds (ps := ["deeds", "chosen"]) fun _ _ _ _ _ _ us hl => match us, hl with | [_, _], _ => rfl
  have g_has_other_deeds := PySem.W.mg_of X G a_has_other_deeds
  have D_has_other_deeds : Df K mg "has_other_deeds" ["deeds", "chosen"] s_has_other_deeds := ⟨_, _, F_has_other_deeds, g_has_other_deeds, b_has_other_deeds⟩
  have F_deeds_in := fun_mk (st := s_deeds_in) l_deeds_in c_deeds_in k_deeds_in
  have b_deeds_in := F_deeds_in.binds (ps := ["deeds", "chosen"]) fun _ _ _ _ _ _ us hl => match us, hl with | [_, _], _ => rfl
  have g_deeds_in := PySem.W.mg_of X G a_deeds_in
  have D_deeds_in : Df K mg "deeds_in" ["deeds", "chosen"] s_deeds_in := ⟨_, _, F_deeds_in, g_deeds_in, b_deeds_in⟩
  have F_lies_in_one := fun_mk (st := s_lies_in_one) l_lies_in_one c_lies_in_one k_lies_in_one
  have b_lies_in_one := F_lies_in_one.binds (ps := ["chosen", "others"]) fun _ _ _ _ _ _ us hl => match us, hl with | [_, _], _ => rfl
  have g_lies_in_one := PySem.W.mg_of X G a_lies_in_one
  have D_lies_in_one : Df K mg "lies_in_one" ["chosen", "others"] s_lies_in_one := ⟨_, _, F_lies_in_one, g_lies_in_one, b_lies_in_one⟩
  have F_most_free_sets := fun_mk (st := s_most_free_sets) l_most_free_sets c_most_free_sets k_most_free_sets
  have b_most_free_sets := F_most_free_sets.binds (ps := ["rule", "deeds"]) fun _ _ _ _ _ _ us hl => match us, hl with | [_, _], _ => rfl
  have g_most_free_sets := PySem.W.mg_of X G a_most_free_sets
  have D_most_free_sets : Df K mg "most_free_sets" ["rule", "deeds"] s_most_free_sets := ⟨_, _, F_most_free_sets, g_most_free_sets, b_most_free_sets⟩
  have F_fewest_asked_sets := fun_mk (st := s_fewest_asked_sets) l_fewest_asked_sets c_fewest_asked_sets k_fewest_asked_sets
  have b_fewest_asked_sets := F_fewest_asked_sets.binds (ps := ["rule", "deeds"]) fun _ _ _ _ _ _ us hl => match us, hl with | [_, _], _ => rfl
  have g_fewest_asked_sets := PySem.W.mg_of X G a_fewest_asked_sets
  have D_fewest_asked_sets : Df K mg "fewest_asked_sets" ["rule", "deeds"] s_fewest_asked_sets := ⟨_, _, F_fewest_asked_sets, g_fewest_asked_sets, b_fewest_asked_sets⟩
  have F_first_opening := fun_mk (st := s_first_opening) l_first_opening c_first_opening k_first_opening
  have b_first_opening := F_first_opening.binds (ps := ["rule"]) fun _ _ _ _ _ _ us hl => match us, hl with | [_], _ => rfl
  have g_first_opening := PySem.W.mg_of X G a_first_opening
  have D_first_opening : Df K mg "first_opening" ["rule"] s_first_opening := ⟨_, _, F_first_opening, g_first_opening, b_first_opening⟩
  have F_Copies_init := fun_mk (st := s_Copies_init) l_Copies_init c_Copies_init k_Copies_init
  have b_Copies_init := F_Copies_init.binds (ps := ["self"]) fun _ _ _ _ _ _ us hl => match us, hl with | [_], _ => rfl
  have F_is_begun := fun_mk (st := s_is_begun) l_is_begun c_is_begun k_is_begun
  have b_is_begun := F_is_begun.binds (ps := ["held"]) fun _ _ _ _ _ _ us hl => match us, hl with | [_], _ => rfl
  have g_is_begun := PySem.W.mg_of X G a_is_begun
  have D_is_begun : Df K mg "is_begun" ["held"] s_is_begun := ⟨_, _, F_is_begun, g_is_begun, b_is_begun⟩
  have F_has_deed := fun_mk (st := s_has_deed) l_has_deed c_has_deed k_has_deed
  have b_has_deed := F_has_deed.binds (ps := ["held", "i"]) fun _ _ _ _ _ _ us hl => match us, hl with | [_, _], _ => rfl
  have g_has_deed := PySem.W.mg_of X G a_has_deed
  have D_has_deed : Df K mg "has_deed" ["held", "i"] s_has_deed := ⟨_, _, F_has_deed, g_has_deed, b_has_deed⟩
  have F_is_state := fun_mk (st := s_is_state) l_is_state c_is_state k_is_state
  have b_is_state := F_is_state.binds (ps := ["held", "s"]) fun _ _ _ _ _ _ us hl => match us, hl with | [_, _], _ => rfl
  have g_is_state := PySem.W.mg_of X G a_is_state
  have D_is_state : Df K mg "is_state" ["held", "s"] s_is_state := ⟨_, _, F_is_state, g_is_state, b_is_state⟩
  have F_is_count_of_copies := fun_mk (st := s_is_count_of_copies) l_is_count_of_copies c_is_count_of_copies k_is_count_of_copies
  have b_is_count_of_copies := F_is_count_of_copies.binds (ps := ["k"]) fun _ _ _ _ _ _ us hl => match us, hl with | [_], _ => rfl
  have g_is_count_of_copies := PySem.W.mg_of X G a_is_count_of_copies
  have D_is_count_of_copies : Df K mg "is_count_of_copies" ["k"] s_is_count_of_copies := ⟨_, _, F_is_count_of_copies, g_is_count_of_copies, b_is_count_of_copies⟩
  have F_yes_or_no := fun_mk (st := s_yes_or_no) l_yes_or_no c_yes_or_no k_yes_or_no
  have b_yes_or_no := F_yes_or_no.binds (ps := ["so"]) fun _ _ _ _ _ _ us hl => match us, hl with | [_], _ => rfl
  have g_yes_or_no := PySem.W.mg_of X G a_yes_or_no
  have D_yes_or_no : Df K mg "yes_or_no" ["so"] s_yes_or_no := ⟨_, _, F_yes_or_no, g_yes_or_no, b_yes_or_no⟩
  have F_answer_begin := fun_mk (st := s_answer_begin) l_answer_begin c_answer_begin k_answer_begin
  have b_answer_begin := F_answer_begin.binds (ps := ["held", "told"]) fun _ _ _ _ _ _ us hl => match us, hl with | [_, _], _ => rfl
  have g_answer_begin := PySem.W.mg_of X G a_answer_begin
  have D_answer_begin : Df K mg "answer_begin" ["held", "told"] s_answer_begin := ⟨_, _, F_answer_begin, g_answer_begin, b_answer_begin⟩
  have F_answer_rule := fun_mk (st := s_answer_rule) l_answer_rule c_answer_rule k_answer_rule
  have b_answer_rule := F_answer_rule.binds (ps := ["held", "told"]) fun _ _ _ _ _ _ us hl => match us, hl with | [_, _], _ => rfl
  have g_answer_rule := PySem.W.mg_of X G a_answer_rule
  have D_answer_rule : Df K mg "answer_rule" ["held", "told"] s_answer_rule := ⟨_, _, F_answer_rule, g_answer_rule, b_answer_rule⟩
  have F_answer_deed := fun_mk (st := s_answer_deed) l_answer_deed c_answer_deed k_answer_deed
  have b_answer_deed := F_answer_deed.binds (ps := ["held", "told"]) fun _ _ _ _ _ _ us hl => match us, hl with | [_, _], _ => rfl
  have g_answer_deed := PySem.W.mg_of X G a_answer_deed
  have D_answer_deed : Df K mg "answer_deed" ["held", "told"] s_answer_deed := ⟨_, _, F_answer_deed, g_answer_deed, b_answer_deed⟩
  have F_answer_drop := fun_mk (st := s_answer_drop) l_answer_drop c_answer_drop k_answer_drop
  have b_answer_drop := F_answer_drop.binds (ps := ["held", "told"]) fun _ _ _ _ _ _ us hl => match us, hl with | [_, _], _ => rfl
  have g_answer_drop := PySem.W.mg_of X G a_answer_drop
  have D_answer_drop : Df K mg "answer_drop" ["held", "told"] s_answer_drop := ⟨_, _, F_answer_drop, g_answer_drop, b_answer_drop⟩
  have F_answer_deed_is := fun_mk (st := s_answer_deed_is) l_answer_deed_is c_answer_deed_is k_answer_deed_is
  have b_answer_deed_is := F_answer_deed_is.binds (ps := ["held", "told"]) fun _ _ _ _ _ _ us hl => match us, hl with | [_, _], _ => rfl
  have g_answer_deed_is := PySem.W.mg_of X G a_answer_deed_is
  have D_answer_deed_is : Df K mg "answer_deed_is" ["held", "told"] s_answer_deed_is := ⟨_, _, F_answer_deed_is, g_answer_deed_is, b_answer_deed_is⟩
  have F_answer_let := fun_mk (st := s_answer_let) l_answer_let c_answer_let k_answer_let
  have b_answer_let := F_answer_let.binds (ps := ["held", "told"]) fun _ _ _ _ _ _ us hl => match us, hl with | [_, _], _ => rfl
  have g_answer_let := PySem.W.mg_of X G a_answer_let
  have D_answer_let : Df K mg "answer_let" ["held", "told"] s_answer_let := ⟨_, _, F_answer_let, g_answer_let, b_answer_let⟩
  have F_answer_does := fun_mk (st := s_answer_does) l_answer_does c_answer_does k_answer_does
  have b_answer_does := F_answer_does.binds (ps := ["held", "told"]) fun _ _ _ _ _ _ us hl => match us, hl with | [_, _], _ => rfl
  have g_answer_does := PySem.W.mg_of X G a_answer_does
  have D_answer_does : Df K mg "answer_does" ["held", "told"] s_answer_does := ⟨_, _, F_answer_does, g_answer_does, b_answer_does⟩
  have F_answer_reach := fun_mk (st := s_answer_reach) l_answer_reach c_answer_reach k_answer_reach
  have b_answer_reach := F_answer_reach.binds (ps := ["held", "told"]) fun _ _ _ _ _ _ us hl => match us, hl with | [_, _], _ => rfl
  have g_answer_reach := PySem.W.mg_of X G a_answer_reach
  have D_answer_reach : Df K mg "answer_reach" ["held", "told"] s_answer_reach := ⟨_, _, F_answer_reach, g_answer_reach, b_answer_reach⟩
  have F_answer_together := fun_mk (st := s_answer_together) l_answer_together c_answer_together k_answer_together
  have b_answer_together := F_answer_together.binds (ps := ["held", "told"]) fun _ _ _ _ _ _ us hl => match us, hl with | [_, _], _ => rfl
  have g_answer_together := PySem.W.mg_of X G a_answer_together
  have D_answer_together : Df K mg "answer_together" ["held", "told"] s_answer_together := ⟨_, _, F_answer_together, g_answer_together, b_answer_together⟩
  have F_answer_keeps := fun_mk (st := s_answer_keeps) l_answer_keeps c_answer_keeps k_answer_keeps
  have b_answer_keeps := F_answer_keeps.binds (ps := ["held", "told"]) fun _ _ _ _ _ _ us hl => match us, hl with | [_, _], _ => rfl
  have g_answer_keeps := PySem.W.mg_of X G a_answer_keeps
  have D_answer_keeps : Df K mg "answer_keeps" ["held", "told"] s_answer_keeps := ⟨_, _, F_answer_keeps, g_answer_keeps, b_answer_keeps⟩
  have F_answer_broken := fun_mk (st := s_answer_broken) l_answer_broken c_answer_broken k_answer_broken
  have b_answer_broken := F_answer_broken.binds (ps := ["held", "told"]) fun _ _ _ _ _ _ us hl => match us, hl with | [_, _], _ => rfl
  have g_answer_broken := PySem.W.mg_of X G a_answer_broken
  have D_answer_broken : Df K mg "answer_broken" ["held", "told"] s_answer_broken := ⟨_, _, F_answer_broken, g_answer_broken, b_answer_broken⟩
  have F_answer_fewest := fun_mk (st := s_answer_fewest) l_answer_fewest c_answer_fewest k_answer_fewest
  have b_answer_fewest := F_answer_fewest.binds (ps := ["held", "told"]) fun _ _ _ _ _ _ us hl => match us, hl with | [_, _], _ => rfl
  have g_answer_fewest := PySem.W.mg_of X G a_answer_fewest
  have D_answer_fewest : Df K mg "answer_fewest" ["held", "told"] s_answer_fewest := ⟨_, _, F_answer_fewest, g_answer_fewest, b_answer_fewest⟩
  have F_answer_broken_at := fun_mk (st := s_answer_broken_at) l_answer_broken_at c_answer_broken_at k_answer_broken_at
  have b_answer_broken_at := F_answer_broken_at.binds (ps := ["held", "told"]) fun _ _ _ _ _ _ us hl => match us, hl with | [_, _], _ => rfl
  have g_answer_broken_at := PySem.W.mg_of X G a_answer_broken_at
  have D_answer_broken_at : Df K mg "answer_broken_at" ["held", "told"] s_answer_broken_at := ⟨_, _, F_answer_broken_at, g_answer_broken_at, b_answer_broken_at⟩
  have F_answer_clash := fun_mk (st := s_answer_clash) l_answer_clash c_answer_clash k_answer_clash
  have b_answer_clash := F_answer_clash.binds (ps := ["held", "told"]) fun _ _ _ _ _ _ us hl => match us, hl with | [_, _], _ => rfl
  have g_answer_clash := PySem.W.mg_of X G a_answer_clash
  have D_answer_clash : Df K mg "answer_clash" ["held", "told"] s_answer_clash := ⟨_, _, F_answer_clash, g_answer_clash, b_answer_clash⟩
  have F_answer_clashes := fun_mk (st := s_answer_clashes) l_answer_clashes c_answer_clashes k_answer_clashes
  have b_answer_clashes := F_answer_clashes.binds (ps := ["held", "told"]) fun _ _ _ _ _ _ us hl => match us, hl with | [_, _], _ => rfl
  have g_answer_clashes := PySem.W.mg_of X G a_answer_clashes
  have D_answer_clashes : Df K mg "answer_clashes" ["held", "told"] s_answer_clashes := ⟨_, _, F_answer_clashes, g_answer_clashes, b_answer_clashes⟩
  have F_answer_free := fun_mk (st := s_answer_free) l_answer_free c_answer_free k_answer_free
  have b_answer_free := F_answer_free.binds (ps := ["held", "told"]) fun _ _ _ _ _ _ us hl => match us, hl with | [_, _], _ => rfl
  have g_answer_free := PySem.W.mg_of X G a_answer_free
  have D_answer_free : Df K mg "answer_free" ["held", "told"] s_answer_free := ⟨_, _, F_answer_free, g_answer_free, b_answer_free⟩
  have F_answer_most_free := fun_mk (st := s_answer_most_free) l_answer_most_free c_answer_most_free k_answer_most_free
  have b_answer_most_free := F_answer_most_free.binds (ps := ["held", "told"]) fun _ _ _ _ _ _ us hl => match us, hl with | [_, _], _ => rfl
  have g_answer_most_free := PySem.W.mg_of X G a_answer_most_free
  have D_answer_most_free : Df K mg "answer_most_free" ["held", "told"] s_answer_most_free := ⟨_, _, F_answer_most_free, g_answer_most_free, b_answer_most_free⟩
  have F_answer_asked := fun_mk (st := s_answer_asked) l_answer_asked c_answer_asked k_answer_asked
  have b_answer_asked := F_answer_asked.binds (ps := ["held", "told"]) fun _ _ _ _ _ _ us hl => match us, hl with | [_, _], _ => rfl
  have g_answer_asked := PySem.W.mg_of X G a_answer_asked
  have D_answer_asked : Df K mg "answer_asked" ["held", "told"] s_answer_asked := ⟨_, _, F_answer_asked, g_answer_asked, b_answer_asked⟩
  have F_answer_alone := fun_mk (st := s_answer_alone) l_answer_alone c_answer_alone k_answer_alone
  have b_answer_alone := F_answer_alone.binds (ps := ["held", "told"]) fun _ _ _ _ _ _ us hl => match us, hl with | [_, _], _ => rfl
  have g_answer_alone := PySem.W.mg_of X G a_answer_alone
  have D_answer_alone : Df K mg "answer_alone" ["held", "told"] s_answer_alone := ⟨_, _, F_answer_alone, g_answer_alone, b_answer_alone⟩
  have F_answer_closed := fun_mk (st := s_answer_closed) l_answer_closed c_answer_closed k_answer_closed
  have b_answer_closed := F_answer_closed.binds (ps := ["held", "told"]) fun _ _ _ _ _ _ us hl => match us, hl with | [_, _], _ => rfl
  have g_answer_closed := PySem.W.mg_of X G a_answer_closed
  have D_answer_closed : Df K mg "answer_closed" ["held", "told"] s_answer_closed := ⟨_, _, F_answer_closed, g_answer_closed, b_answer_closed⟩
  have F_answer_open_states := fun_mk (st := s_answer_open_states) l_answer_open_states c_answer_open_states k_answer_open_states
  have b_answer_open_states := F_answer_open_states.binds (ps := ["held", "told"]) fun _ _ _ _ _ _ us hl => match us, hl with | [_, _], _ => rfl
  have g_answer_open_states := PySem.W.mg_of X G a_answer_open_states
  have D_answer_open_states : Df K mg "answer_open_states" ["held", "told"] s_answer_open_states := ⟨_, _, F_answer_open_states, g_answer_open_states, b_answer_open_states⟩
  have F_answer_state := fun_mk (st := s_answer_state) l_answer_state c_answer_state k_answer_state
  have b_answer_state := F_answer_state.binds (ps := ["held", "told"]) fun _ _ _ _ _ _ us hl => match us, hl with | [_, _], _ => rfl
  have g_answer_state := PySem.W.mg_of X G a_answer_state
  have D_answer_state : Df K mg "answer_state" ["held", "told"] s_answer_state := ⟨_, _, F_answer_state, g_answer_state, b_answer_state⟩
  have F_call_end := fun_mk (st := s_call_end) l_call_end c_call_end k_call_end
  have b_call_end := F_call_end.binds (ps := ["calls", "at"]) fun _ _ _ _ _ _ us hl => match us, hl with | [_, _], _ => rfl
  have g_call_end := PySem.W.mg_of X G a_call_end
  have D_call_end : Df K mg "call_end" ["calls", "at"] s_call_end := ⟨_, _, F_call_end, g_call_end, b_call_end⟩
  have F_answer_call := fun_mk (st := s_answer_call) l_answer_call c_answer_call k_answer_call
  have b_answer_call := F_answer_call.binds (ps := ["held", "number", "told"]) fun _ _ _ _ _ _ us hl => match us, hl with | [_, _, _], _ => rfl
  have g_answer_call := PySem.W.mg_of X G a_answer_call
  have D_answer_call : Df K mg "answer_call" ["held", "number", "told"] s_answer_call := ⟨_, _, F_answer_call, g_answer_call, b_answer_call⟩
  have F_answers := fun_mk (st := s_answers) l_answers c_answers k_answers
  have g_answers := PySem.W.mg_of X G a_answers
  have cl_Deed : Cls K CD := ⟨pg_Deed, hd_Deed, po_Deed, sa_Deed⟩
  have M_Deed : Mk K CD f_Deed_init := ⟨mk_Deed, a_Deed_init, i_Deed_init, kc_Deed⟩
  have g_Deed := PySem.W.mg_of X G a_Deed
  have cl_Copies : Cls K CC := ⟨pg_Copies, hd_Copies, po_Copies, sa_Copies⟩
  have M_Copies : Mk K CC f_Copies_init := ⟨mk_Copies, a_Copies_init, i_Copies_init, kc_Copies⟩
  have g_Copies := PySem.W.mg_of X G a_Copies
  have N : Cn mg := { NOT_BEGUN := ⟨_, PySem.W.mg_of X G v_NOT_BEGUN⟩, NO_SUCH_DEED := ⟨_, PySem.W.mg_of X G v_NO_SUCH_DEED⟩, NOT_AS_TOLD := ⟨_, PySem.W.mg_of X G v_NOT_AS_TOLD⟩, NO_MORE_DEEDS := ⟨_, PySem.W.mg_of X G v_NO_MORE_DEEDS⟩, NEED_NOT_SO := ⟨_, PySem.W.mg_of X G v_NEED_NOT_SO⟩, BEGINS_NOT_LET := ⟨_, PySem.W.mg_of X G v_BEGINS_NOT_LET⟩, NOT_LET := ⟨_, PySem.W.mg_of X G v_NOT_LET⟩, IS_KEPT := ⟨_, PySem.W.mg_of X G v_IS_KEPT⟩, NO_CLASH := ⟨_, PySem.W.mg_of X G v_NO_CLASH⟩, IS_CLOSED := ⟨_, PySem.W.mg_of X G v_IS_CLOSED⟩, MOST_FACTS := ⟨_, PySem.W.mg_of X G v_MOST_FACTS⟩, MOST_DEEDS := ⟨_, PySem.W.mg_of X G v_MOST_DEEDS⟩, MOST_COPIES := ⟨_, PySem.W.mg_of X G v_MOST_COPIES⟩, BEGIN := ⟨_, PySem.W.mg_of X G v_BEGIN⟩, TOGETHER := ⟨_, PySem.W.mg_of X G v_TOGETHER⟩, len := PySem.W.mg_none_of X G z_len, list := PySem.W.mg_none_of X G z_list, min := PySem.W.mg_none_of X G z_min, range := PySem.W.mg_none_of X G z_range, sorted := PySem.W.mg_none_of X G z_sorted }
  have TC : CallsAt K mg TT [(1, f_answer_begin), (1, f_answer_rule), (4, f_answer_deed), (1, f_answer_drop), (1, f_answer_deed_is), (1, f_answer_let), (2, f_answer_does), (1, f_answer_reach), (1, f_answer_together), (1, f_answer_keeps), (1, f_answer_broken), (0, f_answer_fewest), (2, f_answer_broken_at), (2, f_answer_clash), (0, f_answer_clashes), (1, f_answer_free), (0, f_answer_most_free), (0, f_answer_asked), (1, f_answer_alone), (0, f_answer_closed), (0, f_answer_open_states), (0, f_answer_state)] := ⟨PySem.W.mg_of X G a_CALLS, [e0, e1, e2, e3, e4, e5, e6, e7, e8, e9, e10, e11, e12, e13, e14, e15, e16, e17, e18, e19, e20, e21], fun H => .inr ⟨_, _, _, l_CALLS, rfl, rfl, (by show 22 ≤ sizeLine; decide), .cons rfl (.cons rfl (.cons rfl (.cons rfl (.cons rfl (.cons rfl (.cons rfl (.cons rfl (.cons rfl (.cons rfl (.cons rfl (.cons rfl (.cons rfl (.cons rfl (.cons rfl (.cons rfl (.cons rfl (.cons rfl (.cons rfl (.cons rfl (.cons rfl (.cons rfl (.nil))))))))))))))))))))))⟩, fun i n f h => ?tc⟩
  case tc =>
    match i, h with
    | 0, h => obtain ⟨rfl, rfl⟩ := Prod.mk.inj (Option.some.inj h); exact ⟨e0, rfl, fun H => .inr ⟨_, _, _, l_e0, rfl, rfl, (by show 2 ≤ sizeLine; decide), .cons ⟨_, rfl⟩ (.cons rfl .nil)⟩⟩
    | 1, h => obtain ⟨rfl, rfl⟩ := Prod.mk.inj (Option.some.inj h); exact ⟨e1, rfl, fun H => .inr ⟨_, _, _, l_e1, rfl, rfl, (by show 2 ≤ sizeLine; decide), .cons ⟨_, rfl⟩ (.cons rfl .nil)⟩⟩
    | 2, h => obtain ⟨rfl, rfl⟩ := Prod.mk.inj (Option.some.inj h); exact ⟨e2, rfl, fun H => .inr ⟨_, _, _, l_e2, rfl, rfl, (by show 2 ≤ sizeLine; decide), .cons ⟨_, rfl⟩ (.cons rfl .nil)⟩⟩
    | 3, h => obtain ⟨rfl, rfl⟩ := Prod.mk.inj (Option.some.inj h); exact ⟨e3, rfl, fun H => .inr ⟨_, _, _, l_e3, rfl, rfl, (by show 2 ≤ sizeLine; decide), .cons ⟨_, rfl⟩ (.cons rfl .nil)⟩⟩
    | 4, h => obtain ⟨rfl, rfl⟩ := Prod.mk.inj (Option.some.inj h); exact ⟨e4, rfl, fun H => .inr ⟨_, _, _, l_e4, rfl, rfl, (by show 2 ≤ sizeLine; decide), .cons ⟨_, rfl⟩ (.cons rfl .nil)⟩⟩
    | 5, h => obtain ⟨rfl, rfl⟩ := Prod.mk.inj (Option.some.inj h); exact ⟨e5, rfl, fun H => .inr ⟨_, _, _, l_e5, rfl, rfl, (by show 2 ≤ sizeLine; decide), .cons ⟨_, rfl⟩ (.cons rfl .nil)⟩⟩
    | 6, h => obtain ⟨rfl, rfl⟩ := Prod.mk.inj (Option.some.inj h); exact ⟨e6, rfl, fun H => .inr ⟨_, _, _, l_e6, rfl, rfl, (by show 2 ≤ sizeLine; decide), .cons ⟨_, rfl⟩ (.cons rfl .nil)⟩⟩
    | 7, h => obtain ⟨rfl, rfl⟩ := Prod.mk.inj (Option.some.inj h); exact ⟨e7, rfl, fun H => .inr ⟨_, _, _, l_e7, rfl, rfl, (by show 2 ≤ sizeLine; decide), .cons ⟨_, rfl⟩ (.cons rfl .nil)⟩⟩
    | 8, h => obtain ⟨rfl, rfl⟩ := Prod.mk.inj (Option.some.inj h); exact ⟨e8, rfl, fun H => .inr ⟨_, _, _, l_e8, rfl, rfl, (by show 2 ≤ sizeLine; decide), .cons ⟨_, rfl⟩ (.cons rfl .nil)⟩⟩
    | 9, h => obtain ⟨rfl, rfl⟩ := Prod.mk.inj (Option.some.inj h); exact ⟨e9, rfl, fun H => .inr ⟨_, _, _, l_e9, rfl, rfl, (by show 2 ≤ sizeLine; decide), .cons ⟨_, rfl⟩ (.cons rfl .nil)⟩⟩
    | 10, h => obtain ⟨rfl, rfl⟩ := Prod.mk.inj (Option.some.inj h); exact ⟨e10, rfl, fun H => .inr ⟨_, _, _, l_e10, rfl, rfl, (by show 2 ≤ sizeLine; decide), .cons ⟨_, rfl⟩ (.cons rfl .nil)⟩⟩
    | 11, h => obtain ⟨rfl, rfl⟩ := Prod.mk.inj (Option.some.inj h); exact ⟨e11, rfl, fun H => .inr ⟨_, _, _, l_e11, rfl, rfl, (by show 2 ≤ sizeLine; decide), .cons ⟨_, rfl⟩ (.cons rfl .nil)⟩⟩
    | 12, h => obtain ⟨rfl, rfl⟩ := Prod.mk.inj (Option.some.inj h); exact ⟨e12, rfl, fun H => .inr ⟨_, _, _, l_e12, rfl, rfl, (by show 2 ≤ sizeLine; decide), .cons ⟨_, rfl⟩ (.cons rfl .nil)⟩⟩
    | 13, h => obtain ⟨rfl, rfl⟩ := Prod.mk.inj (Option.some.inj h); exact ⟨e13, rfl, fun H => .inr ⟨_, _, _, l_e13, rfl, rfl, (by show 2 ≤ sizeLine; decide), .cons ⟨_, rfl⟩ (.cons rfl .nil)⟩⟩
    | 14, h => obtain ⟨rfl, rfl⟩ := Prod.mk.inj (Option.some.inj h); exact ⟨e14, rfl, fun H => .inr ⟨_, _, _, l_e14, rfl, rfl, (by show 2 ≤ sizeLine; decide), .cons ⟨_, rfl⟩ (.cons rfl .nil)⟩⟩
    | 15, h => obtain ⟨rfl, rfl⟩ := Prod.mk.inj (Option.some.inj h); exact ⟨e15, rfl, fun H => .inr ⟨_, _, _, l_e15, rfl, rfl, (by show 2 ≤ sizeLine; decide), .cons ⟨_, rfl⟩ (.cons rfl .nil)⟩⟩
    | 16, h => obtain ⟨rfl, rfl⟩ := Prod.mk.inj (Option.some.inj h); exact ⟨e16, rfl, fun H => .inr ⟨_, _, _, l_e16, rfl, rfl, (by show 2 ≤ sizeLine; decide), .cons ⟨_, rfl⟩ (.cons rfl .nil)⟩⟩
    | 17, h => obtain ⟨rfl, rfl⟩ := Prod.mk.inj (Option.some.inj h); exact ⟨e17, rfl, fun H => .inr ⟨_, _, _, l_e17, rfl, rfl, (by show 2 ≤ sizeLine; decide), .cons ⟨_, rfl⟩ (.cons rfl .nil)⟩⟩
    | 18, h => obtain ⟨rfl, rfl⟩ := Prod.mk.inj (Option.some.inj h); exact ⟨e18, rfl, fun H => .inr ⟨_, _, _, l_e18, rfl, rfl, (by show 2 ≤ sizeLine; decide), .cons ⟨_, rfl⟩ (.cons rfl .nil)⟩⟩
    | 19, h => obtain ⟨rfl, rfl⟩ := Prod.mk.inj (Option.some.inj h); exact ⟨e19, rfl, fun H => .inr ⟨_, _, _, l_e19, rfl, rfl, (by show 2 ≤ sizeLine; decide), .cons ⟨_, rfl⟩ (.cons rfl .nil)⟩⟩
    | 20, h => obtain ⟨rfl, rfl⟩ := Prod.mk.inj (Option.some.inj h); exact ⟨e20, rfl, fun H => .inr ⟨_, _, _, l_e20, rfl, rfl, (by show 2 ≤ sizeLine; decide), .cons ⟨_, rfl⟩ (.cons rfl .nil)⟩⟩
    | 21, h => obtain ⟨rfl, rfl⟩ := Prod.mk.inj (Option.some.inj h); exact ⟨e21, rfl, fun H => .inr ⟨_, _, _, l_e21, rfl, rfl, (by show 2 ≤ sizeLine; decide), .cons ⟨_, rfl⟩ (.cons rfl .nil)⟩⟩
    | n + 22, h => exact (nomatch h)
  have T : CT K CD := ⟨cl_Deed, n_Deed_need, n_Deed_be, n_Deed_on, n_Deed_off⟩
  have TH : HT K CC := ⟨cl_Copies, n_Copies_facts, n_Copies_rule, n_Copies_deeds⟩
  refine ⟨PySem.W.fnOf "answers" "answers" (defArgs s_answers) (defBody s_answers) (defScope s_answers) .none kV_answers dc_answers pm_answers an_answers cd_answers ct_answers, fun s us hu => match us, hu with | [_], _ => .of_eq rfl, fun base _ _ => ?_⟩
  have O_Deed : OkMk P w K mg base "Deed" CD ["self", "need", "be", "on", "off"] 1 (spDeed CD) := ⟨_, _, M_Deed, ok_Deed F_Deed_init T, g_Deed, b_Deed_init⟩
  have O_Copies : OkMk P w K mg base "Copies" CC ["self"] 1 (spCopies CC) := ⟨_, _, M_Copies, ok_Copies F_Copies_init TH, g_Copies, b_Copies_init⟩
  have O_is_in : Ok P w K mg base "is_in" ["chosen", "number"] 1 (spLet) := ok_isin D_is_in 
  have O_how_many_in := ok_how_many_in (P := P) (w := w) (base := base) D_how_many_in T TH N O_is_in
  have O_how_many_states : Ok P w K mg base "how_many_states" ["facts"] 1 (spHow) := ok_how D_how_many_states 
  have O_all_states : Ok P w K mg base "all_states" ["facts"] 2 (spAll) := ok_all D_all_states O_how_many_states
  have O_has_other_facts : Ok P w K mg base "has_other_facts" ["facts", "chosen"] 2 (spOtherF) := ok_otherF D_has_other_facts O_how_many_states
  have O_has_other_states : Ok P w K mg base "has_other_states" ["facts", "rule"] 3 (spOtherS) := ok_otherS D_has_other_states O_all_states
  have O_is_deed : Ok P w K mg base "is_deed" ["facts", "deed"] 3 (spIsDeed CD) := ok_isDeed D_is_deed T O_has_other_facts
  have O_is_let : Ok P w K mg base "is_let" ["rule", "s"] 2 (spLet) := ok_let D_is_let O_is_in
  have O_states_let := ok_states_let (P := P) (w := w) (base := base) D_states_let T TH N O_is_let
  have O_has_what_it_needs : Ok P w K mg base "has_what_it_needs" ["deed", "s"] 1 (spNeeds CD) := ok_needs D_has_what_it_needs T
  have O_state_after : Ok P w K mg base "state_after" ["deed", "s"] 1 (spAfter CD) := ok_after D_state_after T
  have O_can_be_done : Ok P w K mg base "can_be_done" ["rule", "deed", "s"] 3 (spCan CD) := ok_can D_can_be_done O_has_what_it_needs O_is_let O_state_after
  have O_states_reached : Ok P w K mg base "states_reached" ["rule", "deeds", "s"] 4 (spReach K CD) := ok_reach D_states_reached N.sorted O_state_after O_can_be_done
  have O_put_together : Ok P w K mg base "put_together" ["s", "states"] 1 (spTog K) := ok_tog D_put_together 
  have O_first_rows : Ok P w K mg base "first_rows" ["s", "reached", "k"] 1 (spRows K) := ok_rows D_first_rows N.range
  have O_first_breaking_row : Ok P w K mg base "first_breaking_row" ["rule", "deeds", "s", "k"] 5 (spBad K CD) := ok_bad D_first_breaking_row O_first_rows O_states_reached O_is_let
  have O_first_break := ok_first_break (P := P) (w := w) (base := base) D_first_break T TH N O_states_let O_first_breaking_row O_put_together
  have O_fewest_that_break := ok_fewest_that_break (P := P) (w := w) (base := base) D_fewest_that_break T TH N O_first_break
  have O_first_clash := ok_first_clash (P := P) (w := w) (base := base) D_first_clash T TH N O_states_let O_can_be_done O_is_let O_put_together O_state_after
  have O_twos_that_clash := ok_twos_that_clash (P := P) (w := w) (base := base) D_twos_that_clash T TH N O_first_clash
  have O_states_together := ok_states_together (P := P) (w := w) (base := base) D_states_together T TH N O_put_together
  have O_are_free := ok_are_free (P := P) (w := w) (base := base) D_are_free T TH N O_states_let O_states_together O_states_reached O_is_let
  have O_all_deeds := ok_all_deeds (P := P) (w := w) (base := base) D_all_deeds T TH N 
  have O_has_other_deeds := ok_has_other_deeds (P := P) (w := w) (base := base) D_has_other_deeds T TH N O_all_deeds
  have O_deeds_in := ok_deeds_in (P := P) (w := w) (base := base) D_deeds_in T TH N O_is_in
  have O_lies_in_one := ok_lies_in_one (P := P) (w := w) (base := base) D_lies_in_one T TH N 
  have O_most_free_sets := ok_most_free_sets (P := P) (w := w) (base := base) D_most_free_sets T TH N O_all_deeds O_are_free O_lies_in_one O_deeds_in
  have O_fewest_asked_sets := ok_fewest_asked_sets (P := P) (w := w) (base := base) D_fewest_asked_sets T TH N O_all_deeds O_most_free_sets O_how_many_in
  have O_first_opening := ok_first_opening (P := P) (w := w) (base := base) D_first_opening T TH N O_states_let O_is_let O_put_together
  have O_is_begun : Ok P w K mg base "is_begun" ["held"] 1 (spBegun CC CD) := ok_begun D_is_begun TH
  have O_has_deed : Ok P w K mg base "has_deed" ["held", "i"] 1 (spHas CC CD) := ok_has D_has_deed TH N
  have O_is_state : Ok P w K mg base "is_state" ["held", "s"] 3 (spIsS CC CD) := ok_isS D_is_state TH O_has_other_facts
  have O_is_count_of_copies : Ok P w K mg base "is_count_of_copies" ["k"] 1 (spK) := ok_k D_is_count_of_copies N
  have O_yes_or_no : Ok P w K mg base "yes_or_no" ["so"] 1 (spYes) := ok_yes D_yes_or_no 
  have O_answer_begin := ok_answer_begin (P := P) (w := w) (base := base) D_answer_begin T TH N O_all_states
  have O_answer_rule := ok_answer_rule (P := P) (w := w) (base := base) D_answer_rule T TH N O_has_other_states
  have O_answer_deed := ok_answer_deed (P := P) (w := w) (base := base) D_answer_deed T TH N O_is_deed O_Deed
  have O_answer_drop := ok_answer_drop (P := P) (w := w) (base := base) D_answer_drop T TH N O_has_deed
  have O_answer_deed_is := ok_answer_deed_is (P := P) (w := w) (base := base) D_answer_deed_is T TH N O_has_deed
  have O_answer_let := ok_answer_let (P := P) (w := w) (base := base) D_answer_let T TH N O_yes_or_no O_is_state O_is_let
  have O_answer_does := ok_answer_does (P := P) (w := w) (base := base) D_answer_does T TH N O_has_deed O_is_state O_has_what_it_needs O_is_let O_state_after
  have O_answer_reach := ok_answer_reach (P := P) (w := w) (base := base) D_answer_reach T TH N O_states_reached O_is_state
  have O_answer_together := ok_answer_together (P := P) (w := w) (base := base) D_answer_together T TH N O_put_together O_is_state
  have O_answer_keeps := ok_answer_keeps (P := P) (w := w) (base := base) D_answer_keeps T TH N O_yes_or_no O_is_count_of_copies O_first_break
  have O_answer_broken := ok_answer_broken (P := P) (w := w) (base := base) D_answer_broken T TH N O_first_break O_is_count_of_copies
  have O_answer_fewest := ok_answer_fewest (P := P) (w := w) (base := base) D_answer_fewest T TH N O_fewest_that_break
  have O_answer_broken_at := ok_answer_broken_at (P := P) (w := w) (base := base) D_answer_broken_at T TH N O_first_breaking_row O_is_count_of_copies O_is_state O_is_let O_put_together
  have O_answer_clash := ok_answer_clash (P := P) (w := w) (base := base) D_answer_clash T TH N O_first_clash O_has_deed
  have O_answer_clashes := ok_answer_clashes (P := P) (w := w) (base := base) D_answer_clashes T TH N O_twos_that_clash
  have O_answer_free := ok_answer_free (P := P) (w := w) (base := base) D_answer_free T TH N O_has_other_deeds O_yes_or_no O_are_free O_deeds_in
  have O_answer_most_free := ok_answer_most_free (P := P) (w := w) (base := base) D_answer_most_free T TH N O_most_free_sets
  have O_answer_asked := ok_answer_asked (P := P) (w := w) (base := base) D_answer_asked T TH N O_fewest_asked_sets O_how_many_in
  have O_answer_alone := ok_answer_alone (P := P) (w := w) (base := base) D_answer_alone T TH N O_yes_or_no O_has_deed O_are_free
  have O_answer_closed := ok_answer_closed (P := P) (w := w) (base := base) D_answer_closed T TH N O_yes_or_no O_first_opening
  have O_answer_open_states := ok_answer_open_states (P := P) (w := w) (base := base) D_answer_open_states T TH N O_first_opening
  have O_answer_state := ok_answer_state (P := P) (w := w) (base := base) D_answer_state T TH N O_how_many_in
  have har : ∀ (p n : Nat), Ka.ar[p]? = some n → ∃ f : Addr, ([(1, f_answer_begin), (1, f_answer_rule), (4, f_answer_deed), (1, f_answer_drop), (1, f_answer_deed_is), (1, f_answer_let), (2, f_answer_does), (1, f_answer_reach), (1, f_answer_together), (1, f_answer_keeps), (1, f_answer_broken), (0, f_answer_fewest), (2, f_answer_broken_at), (2, f_answer_clash), (0, f_answer_clashes), (1, f_answer_free), (0, f_answer_most_free), (0, f_answer_asked), (1, f_answer_alone), (0, f_answer_closed), (0, f_answer_open_states), (0, f_answer_state)] : List (Nat × Addr))[p]? = some (n, f) := by
    intro p n h
    match p, h with
    | 0, h => exact ⟨f_answer_begin, by rw [← (Option.some.inj h : 1 = n)]; rfl⟩
    | 1, h => exact ⟨f_answer_rule, by rw [← (Option.some.inj h : 1 = n)]; rfl⟩
    | 2, h => exact ⟨f_answer_deed, by rw [← (Option.some.inj h : 4 = n)]; rfl⟩
    | 3, h => exact ⟨f_answer_drop, by rw [← (Option.some.inj h : 1 = n)]; rfl⟩
    | 4, h => exact ⟨f_answer_deed_is, by rw [← (Option.some.inj h : 1 = n)]; rfl⟩
    | 5, h => exact ⟨f_answer_let, by rw [← (Option.some.inj h : 1 = n)]; rfl⟩
    | 6, h => exact ⟨f_answer_does, by rw [← (Option.some.inj h : 2 = n)]; rfl⟩
    | 7, h => exact ⟨f_answer_reach, by rw [← (Option.some.inj h : 1 = n)]; rfl⟩
    | 8, h => exact ⟨f_answer_together, by rw [← (Option.some.inj h : 1 = n)]; rfl⟩
    | 9, h => exact ⟨f_answer_keeps, by rw [← (Option.some.inj h : 1 = n)]; rfl⟩
    | 10, h => exact ⟨f_answer_broken, by rw [← (Option.some.inj h : 1 = n)]; rfl⟩
    | 11, h => exact ⟨f_answer_fewest, by rw [← (Option.some.inj h : 0 = n)]; rfl⟩
    | 12, h => exact ⟨f_answer_broken_at, by rw [← (Option.some.inj h : 2 = n)]; rfl⟩
    | 13, h => exact ⟨f_answer_clash, by rw [← (Option.some.inj h : 2 = n)]; rfl⟩
    | 14, h => exact ⟨f_answer_clashes, by rw [← (Option.some.inj h : 0 = n)]; rfl⟩
    | 15, h => exact ⟨f_answer_free, by rw [← (Option.some.inj h : 1 = n)]; rfl⟩
    | 16, h => exact ⟨f_answer_most_free, by rw [← (Option.some.inj h : 0 = n)]; rfl⟩
    | 17, h => exact ⟨f_answer_asked, by rw [← (Option.some.inj h : 0 = n)]; rfl⟩
    | 18, h => exact ⟨f_answer_alone, by rw [← (Option.some.inj h : 1 = n)]; rfl⟩
    | 19, h => exact ⟨f_answer_closed, by rw [← (Option.some.inj h : 0 = n)]; rfl⟩
    | 20, h => exact ⟨f_answer_open_states, by rw [← (Option.some.inj h : 0 = n)]; rfl⟩
    | 21, h => exact ⟨f_answer_state, by rw [← (Option.some.inj h : 0 = n)]; rfl⟩
    | p + 22, h => exact (nomatch h)
  have H0 : ∀ (n : Nat) (f : Addr), ([(1, f_answer_begin), (1, f_answer_rule), (4, f_answer_deed), (1, f_answer_drop), (1, f_answer_deed_is), (1, f_answer_let), (2, f_answer_does), (1, f_answer_reach), (1, f_answer_together), (1, f_answer_keeps), (1, f_answer_broken), (0, f_answer_fewest), (2, f_answer_broken_at), (2, f_answer_clash), (0, f_answer_clashes), (1, f_answer_free), (0, f_answer_most_free), (0, f_answer_asked), (1, f_answer_alone), (0, f_answer_closed), (0, f_answer_open_states), (0, f_answer_state)] : List (Nat × Addr))[0]? = some (n, f) → Held P w K mg base 8 f (spBegin K CC CD) := by
    intro n f h
    obtain ⟨_, rfl⟩ := Prod.mk.inj (Option.some.inj h)
    exact held_of O_answer_begin g_answer_begin (by decide)
  have HS : ∀ (p n : Nat) (f : Addr), p ≠ 0 → ([(1, f_answer_begin), (1, f_answer_rule), (4, f_answer_deed), (1, f_answer_drop), (1, f_answer_deed_is), (1, f_answer_let), (2, f_answer_does), (1, f_answer_reach), (1, f_answer_together), (1, f_answer_keeps), (1, f_answer_broken), (0, f_answer_fewest), (2, f_answer_broken_at), (2, f_answer_clash), (0, f_answer_clashes), (1, f_answer_free), (0, f_answer_most_free), (0, f_answer_asked), (1, f_answer_alone), (0, f_answer_closed), (0, f_answer_open_states), (0, f_answer_state)] : List (Nat × Addr))[p]? = some (n, f) → Held P w K mg base 8 f (spH K CC CD (Ka.mkC p)) := by
    intro p n f h0 h
    match p, h0, h with
    | 0, h0, _ => exact absurd rfl h0
    | 1, _, h =>
      obtain ⟨_, rfl⟩ := Prod.mk.inj (Option.some.inj h)
      exact held_imp (held_of O_answer_rule g_answer_rule (by decide)) fun ns c h => match ns, h with | [_], h => h
    | 2, _, h =>
      obtain ⟨_, rfl⟩ := Prod.mk.inj (Option.some.inj h)
      exact held_imp (held_of O_answer_deed g_answer_deed (by decide)) fun ns c h => match ns, h with | [_, _, _, _], h => h
    | 3, _, h =>
      obtain ⟨_, rfl⟩ := Prod.mk.inj (Option.some.inj h)
      exact held_imp (held_of O_answer_drop g_answer_drop (by decide)) fun ns c h => match ns, h with | [_], h => h
    | 4, _, h =>
      obtain ⟨_, rfl⟩ := Prod.mk.inj (Option.some.inj h)
      exact held_imp (held_of O_answer_deed_is g_answer_deed_is (by decide)) fun ns c h => match ns, h with | [_], h => h
    | 5, _, h =>
      obtain ⟨_, rfl⟩ := Prod.mk.inj (Option.some.inj h)
      exact held_imp (held_of O_answer_let g_answer_let (by decide)) fun ns c h => match ns, h with | [_], h => h
    | 6, _, h =>
      obtain ⟨_, rfl⟩ := Prod.mk.inj (Option.some.inj h)
      exact held_imp (held_of O_answer_does g_answer_does (by decide)) fun ns c h => match ns, h with | [_, _], h => h
    | 7, _, h =>
      obtain ⟨_, rfl⟩ := Prod.mk.inj (Option.some.inj h)
      exact held_imp (held_of O_answer_reach g_answer_reach (by decide)) fun ns c h => match ns, h with | [_], h => h
    | 8, _, h =>
      obtain ⟨_, rfl⟩ := Prod.mk.inj (Option.some.inj h)
      exact held_imp (held_of O_answer_together g_answer_together (by decide)) fun ns c h => match ns, h with | _ :: _ :: _, h => h
    | 9, _, h =>
      obtain ⟨_, rfl⟩ := Prod.mk.inj (Option.some.inj h)
      exact held_imp (held_of O_answer_keeps g_answer_keeps (by decide)) fun ns c h => match ns, h with | [_], h => h
    | 10, _, h =>
      obtain ⟨_, rfl⟩ := Prod.mk.inj (Option.some.inj h)
      exact held_imp (held_of O_answer_broken g_answer_broken (by decide)) fun ns c h => match ns, h with | [_], h => h
    | 11, _, h =>
      obtain ⟨_, rfl⟩ := Prod.mk.inj (Option.some.inj h)
      exact held_imp (held_of O_answer_fewest g_answer_fewest (by decide)) fun ns c h => match ns, h with | [], h => h
    | 12, _, h =>
      obtain ⟨_, rfl⟩ := Prod.mk.inj (Option.some.inj h)
      exact held_imp (held_of O_answer_broken_at g_answer_broken_at (by decide)) fun ns c h => match ns, h with | [_, _], h => h
    | 13, _, h =>
      obtain ⟨_, rfl⟩ := Prod.mk.inj (Option.some.inj h)
      exact held_imp (held_of O_answer_clash g_answer_clash (by decide)) fun ns c h => match ns, h with | [_, _], h => h
    | 14, _, h =>
      obtain ⟨_, rfl⟩ := Prod.mk.inj (Option.some.inj h)
      exact held_imp (held_of O_answer_clashes g_answer_clashes (by decide)) fun ns c h => match ns, h with | [], h => h
    | 15, _, h =>
      obtain ⟨_, rfl⟩ := Prod.mk.inj (Option.some.inj h)
      exact held_imp (held_of O_answer_free g_answer_free (by decide)) fun ns c h => match ns, h with | [_], h => h
    | 16, _, h =>
      obtain ⟨_, rfl⟩ := Prod.mk.inj (Option.some.inj h)
      exact held_imp (held_of O_answer_most_free g_answer_most_free (by decide)) fun ns c h => match ns, h with | [], h => h
    | 17, _, h =>
      obtain ⟨_, rfl⟩ := Prod.mk.inj (Option.some.inj h)
      exact held_imp (held_of O_answer_asked g_answer_asked (by decide)) fun ns c h => match ns, h with | [], h => h
    | 18, _, h =>
      obtain ⟨_, rfl⟩ := Prod.mk.inj (Option.some.inj h)
      exact held_imp (held_of O_answer_alone g_answer_alone (by decide)) fun ns c h => match ns, h with | [_], h => h
    | 19, _, h =>
      obtain ⟨_, rfl⟩ := Prod.mk.inj (Option.some.inj h)
      exact held_imp (held_of O_answer_closed g_answer_closed (by decide)) fun ns c h => match ns, h with | [], h => h
    | 20, _, h =>
      obtain ⟨_, rfl⟩ := Prod.mk.inj (Option.some.inj h)
      exact held_imp (held_of O_answer_open_states g_answer_open_states (by decide)) fun ns c h => match ns, h with | [], h => h
    | 21, _, h =>
      obtain ⟨_, rfl⟩ := Prod.mk.inj (Option.some.inj h)
      exact held_imp (held_of O_answer_state g_answer_state (by decide)) fun ns c h => match ns, h with | [], h => h
    | p + 22, _, h => exact (nomatch h)
  have O_end : Ok P w K mg base "call_end" ["calls", "at"] 1 (spEnd K) := ok_end D_call_end N TC har
  have O_call : Ok P w K mg base "answer_call" ["held", "number", "told"] (8 + 1) (spCall K CC CD) := ok_call D_answer_call N TC har O_is_begun (by decide) H0 HS
  exact ok_answers F_answers N O_end O_call O_Copies (by decide)
end Kp
open PySem PySem.W PyProof.Rows
set_option maxHeartbeats 0 in
theorem PySem.Challenge.cw_keptapart_s01_answers_holds : PySem.Challenge.rw_keptapart_s01_answers.Holds := by
  w_on; k_headS; (case hw => exact ⟨[.list [.int 21]], by decide +kernel, by decide +kernel⟩)
  k_fillS
  refine L2.walk_specK (r := PySem.Challenge.rw_keptapart_s01_answers) (k := 10) (CX := L2.CX0) (ps := ["calls"]) (sp := Kp.spAnswers) (by decide +kernel) rfl rfl ⟨rfl, by decide, by decide⟩ (fun w h Y => PySem.W.kIn_of Y) ?F ?S (fun _ _ _ _ z => z)
  case F =>
    intro w mg fa h Y KX G hmg
    refine' Kp.all_mk KX G hmg ?a_Deed ?pg_Deed ?hd_Deed ?po_Deed ?sa_Deed ?mk_Deed ?kc_Deed ?n_Deed_need ?n_Deed_be ?n_Deed_on ?n_Deed_off ?a_Copies ?pg_Copies ?hd_Copies ?po_Copies ?sa_Copies ?mk_Copies ?kc_Copies ?n_Copies_facts ?n_Copies_rule ?n_Copies_deeds ?a_Deed_init ?i_Deed_init ?l_Deed_init ?c_Deed_init ?k_Deed_init ?a_is_in ?l_is_in ?c_is_in ?k_is_in ?a_how_many_in ?l_how_many_in ?c_how_many_in ?k_how_many_in ?a_how_many_states ?l_how_many_states ?c_how_many_states ?k_how_many_states ?a_all_states ?l_all_states ?c_all_states ?k_all_states ?a_has_other_facts ?l_has_other_facts ?c_has_other_facts ?k_has_other_facts ?a_has_other_states ?l_has_other_states ?c_has_other_states ?k_has_other_states ?a_is_deed ?l_is_deed ?c_is_deed ?k_is_deed ?a_is_let ?l_is_let ?c_is_let ?k_is_let ?a_states_let ?l_states_let ?c_states_let ?k_states_let ?a_has_what_it_needs ?l_has_what_it_needs ?c_has_what_it_needs ?k_has_what_it_needs ?a_state_after ?l_state_after ?c_state_after ?k_state_after ?a_can_be_done ?l_can_be_done ?c_can_be_done ?k_can_be_done ?a_states_reached ?l_states_reached ?c_states_reached ?k_states_reached ?a_put_together ?l_put_together ?c_put_together ?k_put_together ?a_first_rows ?l_first_rows ?c_first_rows ?k_first_rows ?a_first_breaking_row ?l_first_breaking_row ?c_first_breaking_row ?k_first_breaking_row ?a_first_break ?l_first_break ?c_first_break ?k_first_break ?a_fewest_that_break ?l_fewest_that_break ?c_fewest_that_break ?k_fewest_that_break ?a_first_clash ?l_first_clash ?c_first_clash ?k_first_clash ?a_twos_that_clash ?l_twos_that_clash ?c_twos_that_clash ?k_twos_that_clash ?a_states_together ?l_states_together ?c_states_together ?k_states_together ?a_are_free ?l_are_free ?c_are_free ?k_are_free ?a_all_deeds ?l_all_deeds ?c_all_deeds ?k_all_deeds ?a_has_other_deeds ?l_has_other_deeds ?c_has_other_deeds ?k_has_other_deeds ?a_deeds_in ?l_deeds_in ?c_deeds_in ?k_deeds_in ?a_lies_in_one ?l_lies_in_one ?c_lies_in_one ?k_lies_in_one ?a_most_free_sets ?l_most_free_sets ?c_most_free_sets ?k_most_free_sets ?a_fewest_asked_sets ?l_fewest_asked_sets ?c_fewest_asked_sets ?k_fewest_asked_sets ?a_first_opening ?l_first_opening ?c_first_opening ?k_first_opening ?a_Copies_init ?i_Copies_init ?l_Copies_init ?c_Copies_init ?k_Copies_init ?a_is_begun ?l_is_begun ?c_is_begun ?k_is_begun ?a_has_deed ?l_has_deed ?c_has_deed ?k_has_deed ?a_is_state ?l_is_state ?c_is_state ?k_is_state ?a_is_count_of_copies ?l_is_count_of_copies ?c_is_count_of_copies ?k_is_count_of_copies ?a_yes_or_no ?l_yes_or_no ?c_yes_or_no ?k_yes_or_no ?a_answer_begin ?l_answer_begin ?c_answer_begin ?k_answer_begin ?a_answer_rule ?l_answer_rule ?c_answer_rule ?k_answer_rule ?a_answer_deed ?l_answer_deed ?c_answer_deed ?k_answer_deed ?a_answer_drop ?l_answer_drop ?c_answer_drop ?k_answer_drop ?a_answer_deed_is ?l_answer_deed_is ?c_answer_deed_is ?k_answer_deed_is ?a_answer_let ?l_answer_let ?c_answer_let ?k_answer_let ?a_answer_does ?l_answer_does ?c_answer_does ?k_answer_does ?a_answer_reach ?l_answer_reach ?c_answer_reach ?k_answer_reach ?a_answer_together ?l_answer_together ?c_answer_together ?k_answer_together ?a_answer_keeps ?l_answer_keeps ?c_answer_keeps ?k_answer_keeps ?a_answer_broken ?l_answer_broken ?c_answer_broken ?k_answer_broken ?a_answer_fewest ?l_answer_fewest ?c_answer_fewest ?k_answer_fewest ?a_answer_broken_at ?l_answer_broken_at ?c_answer_broken_at ?k_answer_broken_at ?a_answer_clash ?l_answer_clash ?c_answer_clash ?k_answer_clash ?a_answer_clashes ?l_answer_clashes ?c_answer_clashes ?k_answer_clashes ?a_answer_free ?l_answer_free ?c_answer_free ?k_answer_free ?a_answer_most_free ?l_answer_most_free ?c_answer_most_free ?k_answer_most_free ?a_answer_asked ?l_answer_asked ?c_answer_asked ?k_answer_asked ?a_answer_alone ?l_answer_alone ?c_answer_alone ?k_answer_alone ?a_answer_closed ?l_answer_closed ?c_answer_closed ?k_answer_closed ?a_answer_open_states ?l_answer_open_states ?c_answer_open_states ?k_answer_open_states ?a_answer_state ?l_answer_state ?c_answer_state ?k_answer_state ?a_call_end ?l_call_end ?c_call_end ?k_call_end ?a_answer_call ?l_answer_call ?c_answer_call ?k_answer_call ?a_answers ?l_answers ?c_answers ?k_answers ?v_NOT_BEGUN ?v_NO_SUCH_DEED ?v_NOT_AS_TOLD ?v_NO_MORE_DEEDS ?v_NEED_NOT_SO ?v_BEGINS_NOT_LET ?v_NOT_LET ?v_IS_KEPT ?v_NO_CLASH ?v_IS_CLOSED ?v_MOST_FACTS ?v_MOST_DEEDS ?v_MOST_COPIES ?v_BEGIN ?v_TOGETHER ?z_len ?z_list ?z_min ?z_range ?z_sorted ?a_CALLS ?l_CALLS ?l_e0 ?l_e1 ?l_e2 ?l_e3 ?l_e4 ?l_e5 ?l_e6 ?l_e7 ?l_e8 ?l_e9 ?l_e10 ?l_e11 ?l_e12 ?l_e13 ?l_e14 ?l_e15 ?l_e16 ?l_e17 ?l_e18 ?l_e19 ?l_e20 ?l_e21
    (case a_Deed => k_is)
    (case pg_Deed => k_is)
    (case hd_Deed => k_is)
    (case po_Deed => k_is)
    (case sa_Deed => k_is)
    (case mk_Deed => k_is)
    (case kc_Deed => k_is)
    (case n_Deed_need => k_is)
    (case n_Deed_be => k_is)
    (case n_Deed_on => k_is)
    (case n_Deed_off => k_is)
    (case a_Copies => k_is)
    (case pg_Copies => k_is)
    (case hd_Copies => k_is)
    (case po_Copies => k_is)
    (case sa_Copies => k_is)
    (case mk_Copies => k_is)
    (case kc_Copies => k_is)
    (case n_Copies_facts => k_is)
    (case n_Copies_rule => k_is)
    (case n_Copies_deeds => k_is)
    (case a_Deed_init => k_is)
    (case i_Deed_init => k_is)
    (case l_Deed_init => k_is)
    (case c_Deed_init => k_is)
    (case k_Deed_init => k_is)
    (case a_is_in => k_is)
    (case l_is_in => k_is)
    (case c_is_in => k_is)
    (case k_is_in => k_is)
    (case a_how_many_in => k_is)
    (case l_how_many_in => k_is)
    (case c_how_many_in => k_is)
    (case k_how_many_in => k_is)
    (case a_how_many_states => k_is)
    (case l_how_many_states => k_is)
    (case c_how_many_states => k_is)
    (case k_how_many_states => k_is)
    (case a_all_states => k_is)
    (case l_all_states => k_is)
    (case c_all_states => k_is)
    (case k_all_states => k_is)
    (case a_has_other_facts => k_is)
    (case l_has_other_facts => k_is)
    (case c_has_other_facts => k_is)
    (case k_has_other_facts => k_is)
    (case a_has_other_states => k_is)
    (case l_has_other_states => k_is)
    (case c_has_other_states => k_is)
    (case k_has_other_states => k_is)
    (case a_is_deed => k_is)
    (case l_is_deed => k_is)
    (case c_is_deed => k_is)
    (case k_is_deed => k_is)
    (case a_is_let => k_is)
    (case l_is_let => k_is)
    (case c_is_let => k_is)
    (case k_is_let => k_is)
    (case a_states_let => k_is)
    (case l_states_let => k_is)
    (case c_states_let => k_is)
    (case k_states_let => k_is)
    (case a_has_what_it_needs => k_is)
    (case l_has_what_it_needs => k_is)
    (case c_has_what_it_needs => k_is)
    (case k_has_what_it_needs => k_is)
    (case a_state_after => k_is)
    (case l_state_after => k_is)
    (case c_state_after => k_is)
    (case k_state_after => k_is)
    (case a_can_be_done => k_is)
    (case l_can_be_done => k_is)
    (case c_can_be_done => k_is)
    (case k_can_be_done => k_is)
    (case a_states_reached => k_is)
    (case l_states_reached => k_is)
    (case c_states_reached => k_is)
    (case k_states_reached => k_is)
    (case a_put_together => k_is)
    (case l_put_together => k_is)
    (case c_put_together => k_is)
    (case k_put_together => k_is)
    (case a_first_rows => k_is)
    (case l_first_rows => k_is)
    (case c_first_rows => k_is)
    (case k_first_rows => k_is)
    (case a_first_breaking_row => k_is)
    (case l_first_breaking_row => k_is)
    (case c_first_breaking_row => k_is)
    (case k_first_breaking_row => k_is)
    (case a_first_break => k_is)
    (case l_first_break => k_is)
    (case c_first_break => k_is)
    (case k_first_break => k_is)
    (case a_fewest_that_break => k_is)
    (case l_fewest_that_break => k_is)
    (case c_fewest_that_break => k_is)
    (case k_fewest_that_break => k_is)
    (case a_first_clash => k_is)
    (case l_first_clash => k_is)
    (case c_first_clash => k_is)
    (case k_first_clash => k_is)
    (case a_twos_that_clash => k_is)
    (case l_twos_that_clash => k_is)
    (case c_twos_that_clash => k_is)
    (case k_twos_that_clash => k_is)
    (case a_states_together => k_is)
    (case l_states_together => k_is)
    (case c_states_together => k_is)
    (case k_states_together => k_is)
    (case a_are_free => k_is)
    (case l_are_free => k_is)
    (case c_are_free => k_is)
    (case k_are_free => k_is)
    (case a_all_deeds => k_is)
    (case l_all_deeds => k_is)
    (case c_all_deeds => k_is)
    (case k_all_deeds => k_is)
    (case a_has_other_deeds => k_is)
    (case l_has_other_deeds => k_is)
    (case c_has_other_deeds => k_is)
    (case k_has_other_deeds => k_is)
    (case a_deeds_in => k_is)
    (case l_deeds_in => k_is)
    (case c_deeds_in => k_is)
    (case k_deeds_in => k_is)
    (case a_lies_in_one => k_is)
    (case l_lies_in_one => k_is)
    (case c_lies_in_one => k_is)
    (case k_lies_in_one => k_is)
    (case a_most_free_sets => k_is)
    (case l_most_free_sets => k_is)
    (case c_most_free_sets => k_is)
    (case k_most_free_sets => k_is)
    (case a_fewest_asked_sets => k_is)
    (case l_fewest_asked_sets => k_is)
    (case c_fewest_asked_sets => k_is)
    (case k_fewest_asked_sets => k_is)
    (case a_first_opening => k_is)
    (case l_first_opening => k_is)
    (case c_first_opening => k_is)
    (case k_first_opening => k_is)
    (case a_Copies_init => k_is)
    (case i_Copies_init => k_is)
    (case l_Copies_init => k_is)
    (case c_Copies_init => k_is)
    (case k_Copies_init => k_is)
    (case a_is_begun => k_is)
    (case l_is_begun => k_is)
    (case c_is_begun => k_is)
    (case k_is_begun => k_is)
    (case a_has_deed => k_is)
    (case l_has_deed => k_is)
    (case c_has_deed => k_is)
    (case k_has_deed => k_is)
    (case a_is_state => k_is)
    (case l_is_state => k_is)
    (case c_is_state => k_is)
    (case k_is_state => k_is)
    (case a_is_count_of_copies => k_is)
    (case l_is_count_of_copies => k_is)
    (case c_is_count_of_copies => k_is)
    (case k_is_count_of_copies => k_is)
    (case a_yes_or_no => k_is)
    (case l_yes_or_no => k_is)
    (case c_yes_or_no => k_is)
    (case k_yes_or_no => k_is)
    (case a_answer_begin => k_is)
    (case l_answer_begin => k_is)
    (case c_answer_begin => k_is)
    (case k_answer_begin => k_is)
    (case a_answer_rule => k_is)
    (case l_answer_rule => k_is)
    (case c_answer_rule => k_is)
    (case k_answer_rule => k_is)
    (case a_answer_deed => k_is)
    (case l_answer_deed => k_is)
    (case c_answer_deed => k_is)
    (case k_answer_deed => k_is)
    (case a_answer_drop => k_is)
    (case l_answer_drop => k_is)
    (case c_answer_drop => k_is)
    (case k_answer_drop => k_is)
    (case a_answer_deed_is => k_is)
    (case l_answer_deed_is => k_is)
    (case c_answer_deed_is => k_is)
    (case k_answer_deed_is => k_is)
    (case a_answer_let => k_is)
    (case l_answer_let => k_is)
    (case c_answer_let => k_is)
    (case k_answer_let => k_is)
    (case a_answer_does => k_is)
    (case l_answer_does => k_is)
    (case c_answer_does => k_is)
    (case k_answer_does => k_is)
    (case a_answer_reach => k_is)
    (case l_answer_reach => k_is)
    (case c_answer_reach => k_is)
    (case k_answer_reach => k_is)
    (case a_answer_together => k_is)
    (case l_answer_together => k_is)
    (case c_answer_together => k_is)
    (case k_answer_together => k_is)
    (case a_answer_keeps => k_is)
    (case l_answer_keeps => k_is)
    (case c_answer_keeps => k_is)
    (case k_answer_keeps => k_is)
    (case a_answer_broken => k_is)
    (case l_answer_broken => k_is)
    (case c_answer_broken => k_is)
    (case k_answer_broken => k_is)
    (case a_answer_fewest => k_is)
    (case l_answer_fewest => k_is)
    (case c_answer_fewest => k_is)
    (case k_answer_fewest => k_is)
    (case a_answer_broken_at => k_is)
    (case l_answer_broken_at => k_is)
    (case c_answer_broken_at => k_is)
    (case k_answer_broken_at => k_is)
    (case a_answer_clash => k_is)
    (case l_answer_clash => k_is)
    (case c_answer_clash => k_is)
    (case k_answer_clash => k_is)
    (case a_answer_clashes => k_is)
    (case l_answer_clashes => k_is)
    (case c_answer_clashes => k_is)
    (case k_answer_clashes => k_is)
    (case a_answer_free => k_is)
    (case l_answer_free => k_is)
    (case c_answer_free => k_is)
    (case k_answer_free => k_is)
    (case a_answer_most_free => k_is)
    (case l_answer_most_free => k_is)
    (case c_answer_most_free => k_is)
    (case k_answer_most_free => k_is)
    (case a_answer_asked => k_is)
    (case l_answer_asked => k_is)
    (case c_answer_asked => k_is)
    (case k_answer_asked => k_is)
    (case a_answer_alone => k_is)
    (case l_answer_alone => k_is)
    (case c_answer_alone => k_is)
    (case k_answer_alone => k_is)
    (case a_answer_closed => k_is)
    (case l_answer_closed => k_is)
    (case c_answer_closed => k_is)
    (case k_answer_closed => k_is)
    (case a_answer_open_states => k_is)
    (case l_answer_open_states => k_is)
    (case c_answer_open_states => k_is)
    (case k_answer_open_states => k_is)
    (case a_answer_state => k_is)
    (case l_answer_state => k_is)
    (case c_answer_state => k_is)
    (case k_answer_state => k_is)
    (case a_call_end => k_is)
    (case l_call_end => k_is)
    (case c_call_end => k_is)
    (case k_call_end => k_is)
    (case a_answer_call => k_is)
    (case l_answer_call => k_is)
    (case c_answer_call => k_is)
    (case k_answer_call => k_is)
    (case a_answers => k_is)
    (case l_answers => k_is)
    (case c_answers => k_is)
    (case k_answers => k_is)
    (case v_NOT_BEGUN => k_is)
    (case v_NO_SUCH_DEED => k_is)
    (case v_NOT_AS_TOLD => k_is)
    (case v_NO_MORE_DEEDS => k_is)
    (case v_NEED_NOT_SO => k_is)
    (case v_BEGINS_NOT_LET => k_is)
    (case v_NOT_LET => k_is)
    (case v_IS_KEPT => k_is)
    (case v_NO_CLASH => k_is)
    (case v_IS_CLOSED => k_is)
    (case v_MOST_FACTS => k_is)
    (case v_MOST_DEEDS => k_is)
    (case v_MOST_COPIES => k_is)
    (case v_BEGIN => k_is)
    (case v_TOGETHER => k_is)
    (case z_len => k_is)
    (case z_list => k_is)
    (case z_min => k_is)
    (case z_range => k_is)
    (case z_sorted => k_is)
    (case a_CALLS => k_is)
    (case l_CALLS => k_is)
    (case l_e0 => k_is)
    (case l_e1 => k_is)
    (case l_e2 => k_is)
    (case l_e3 => k_is)
    (case l_e4 => k_is)
    (case l_e5 => k_is)
    (case l_e6 => k_is)
    (case l_e7 => k_is)
    (case l_e8 => k_is)
    (case l_e9 => k_is)
    (case l_e10 => k_is)
    (case l_e11 => k_is)
    (case l_e12 => k_is)
    (case l_e13 => k_is)
    (case l_e14 => k_is)
    (case l_e15 => k_is)
    (case l_e16 => k_is)
    (case l_e17 => k_is)
    (case l_e18 => k_is)
    (case l_e19 => k_is)
    (case l_e20 => k_is)
    (case l_e21 => k_is)
  case S =>
    intro K H xs a hO hwi hask hx
    cases hx with
    | cons h1 h2 =>
      cases h2
      cases h1 with
      | lst hs ha =>
        have e := L2.ints_dw a.1 _ ha
        subst e
        have q : ((Codec.inLen 0 420 a.1 && a.1.all (Codec.inInt 0 2147483647)) && true) = true := hwi
        rw [Bool.and_eq_true, Bool.and_eq_true] at q
        refine ⟨_, a.1, rfl, hs, fun x hx => ?_, (Codec.inNat_iff.mp q.1.1).2, hask, fun H' p hp => .lst (L2.SqL.of hp) (L2.dw_ints _)⟩
        have := List.all_eq_true.mp q.1.2 x hx
        exact (Codec.inInt_iff.mp this).1
