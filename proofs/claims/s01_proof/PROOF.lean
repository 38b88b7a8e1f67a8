import PyProof.Rows.All
import Wide.All
import OpenK.AllK
import Wide.FinOn
import Open.SpecLaws
import KE.OsGo
import KE.DataMinKey
import HandS.ForSpec
import HandS.ForMost
import HandS.More
import HandS.Zip
import HandS.DictTup
import HandS.SortKw
import HandS.Evl
import HandS.Flow
import HandS.Walk
import PySem.Challenge.RW_lampways_s01_answers
set_option maxRecDepth 100000
set_option maxHeartbeats 4000000
namespace La
open Sy85
/-! ### geometry -/
def plain (r c : Nat) : St := ⟨r, c, [], [], []⟩
def above (c x : Nat) : List Nat := (List.range (x / c)).map fun k => (x / c - 1 - k) * c + x % c
def left (c x : Nat) : List Nat := (List.range (x % c)).map fun k => x / c * c + (x % c - 1 - k)
def right (c x : Nat) : List Nat := (List.range (c - (x % c + 1))).map fun k => x / c * c + (x % c + 1 + k)
def below (r c x : Nat) : List Nat := (List.range (r - (x / c + 1))).map fun k => (x / c + 1 + k) * c + x % c
def lines (r c x : Nat) : List (List Nat) := [above c x, left c x, right c x, below r c x]
def cut (P : Nat → Bool) (l : List Nat) : List Nat := l.takeWhile fun y => !P y
def litFrom (P : Nat → Bool) (r c x : Nat) : List Nat := x :: (lines r c x).flatMap (cut P)
def besideM (r c x : Nat) : List Nat := (lines r c x).filterMap List.head?
structure Size (r c : Nat) : Prop where
  r1 : 1 ≤ r
  r4 : r ≤ 4
  c1 : 1 ≤ c
  c4 : c ≤ 4
theorem lines_all : ∀ r c : Fin 5, ∀ x : Fin 16, 1 ≤ r.1 → 1 ≤ c.1 → x.1 < r.1 * c.1 →
    lines r.1 c.1 x.1 = [ray (plain r.1 c.1) 0 6 x.1, ray (plain r.1 c.1) 3 6 x.1, ray (plain r.1 c.1) 1 6 x.1, ray (plain r.1 c.1) 2 6 x.1] := by decide +kernel
theorem lt16 {r c x : Nat} (h : Size r c) (hx : x < r * c) : x < 16 := Nat.lt_of_lt_of_le hx (Nat.mul_le_mul h.r4 h.c4)
theorem lines_eq {r c x : Nat} (h : Size r c) (hx : x < r * c) :
    lines r c x = [ray (plain r c) 0 6 x, ray (plain r c) 3 6 x, ray (plain r c) 1 6 x, ray (plain r c) 2 6 x] :=
  lines_all ⟨r, Nat.lt_succ_of_le h.r4⟩ ⟨c, Nat.lt_succ_of_le h.c4⟩ ⟨x, lt16 h hx⟩ h.r1 h.c1 hx
theorem next_plain (s : St) (x w : Nat) : next s x w = next (plain s.rows s.cols) x w := rfl
theorem ray_plain (s : St) (w : Nat) : ∀ (f x : Nat), ray s w f x = cut (isPillar s) (ray (plain s.rows s.cols) w f x)
  | 0, _ => rfl
  | f + 1, x => by
    unfold ray
    rw [next_plain]
    cases next (plain s.rows s.cols) x w with
    | none => rfl
    | some y =>
      have e : isPillar (plain s.rows s.cols) y = false := rfl
      dsimp only
      rw [e, ray_plain s w f y]
      unfold cut
      cases e2 : isPillar s y <;> simp [List.takeWhile_cons, e2]
theorem mem_cut {P : Nat → Bool} {y : Nat} : ∀ {l : List Nat}, y ∈ cut P l ↔ ∃ i : Nat, l[i]? = some y ∧ P y = false ∧ ∀ z ∈ l.take i, P z = false
  | [] => by simp [cut]
  | a :: l => by
    have ih := mem_cut (P := P) (y := y) (l := l)
    unfold cut at ih ⊢
    rw [List.takeWhile_cons]
    cases ha : P a with
    | true =>
      simp only [Bool.not_true, Bool.false_eq_true, if_false, List.not_mem_nil, false_iff]
      rintro ⟨i, h1, h2, h3⟩
      cases i with
      | zero =>
        have : a = y := Option.some.inj h1
        rw [← this, ha] at h2
        cases h2
      | succ i =>
        have := h3 a (by simp)
        rw [ha] at this
        cases this
    | false =>
      simp only [Bool.not_false, if_true, List.mem_cons, ih]
      constructor
      · rintro (rfl | ⟨i, h1, h2, h3⟩)
        · exact ⟨0, rfl, ha, by simp⟩
        · refine ⟨i + 1, by simpa using h1, h2, ?_⟩
          intro z hz
          rw [List.take_succ_cons, List.mem_cons] at hz
          rcases hz with rfl | hz
          · exact ha
          · exact h3 z hz
      · rintro ⟨i, h1, h2, h3⟩
        cases i with
        | zero => exact .inl (Option.some.inj h1).symm
        | succ i => exact .inr ⟨i, by simpa using h1, h2, fun z hz => h3 z (by rw [List.take_succ_cons]; exact List.mem_cons_of_mem _ hz)⟩
def opp (w : Nat) : Nat := (w + 2) % 4
theorem back_all : ∀ r c : Fin 5, ∀ x : Fin 16, ∀ w : Fin 4, 1 ≤ r.1 → 1 ≤ c.1 → x.1 < r.1 * c.1 →
    ((ray (plain r.1 c.1) w.1 6 x.1).length ≤ 4) ∧ ∀ i : Fin 4, ((ray (plain r.1 c.1) w.1 6 x.1)[i.1]?).all (fun y =>
      decide (y < r.1 * c.1) && decide (y ≠ x.1) && decide ((ray (plain r.1 c.1) (opp w.1) 6 y)[i.1]? = some x.1) && decide ((ray (plain r.1 c.1) (opp w.1) 6 y).take i.1 = ((ray (plain r.1 c.1) w.1 6 x.1).take i.1).reverse)) = true := by decide +kernel
theorem back {r c x w i y : Nat} (h : Size r c) (hx : x < r * c) (hw : w < 4) (hy : (ray (plain r c) w 6 x)[i]? = some y) :
    y < r * c ∧ y ≠ x ∧ (ray (plain r c) (opp w) 6 y)[i]? = some x ∧ (ray (plain r c) (opp w) 6 y).take i = ((ray (plain r c) w 6 x).take i).reverse := by
  have q := back_all ⟨r, Nat.lt_succ_of_le h.r4⟩ ⟨c, Nat.lt_succ_of_le h.c4⟩ ⟨x, lt16 h hx⟩ ⟨w, hw⟩ h.r1 h.c1 hx
  have hi : i < 4 := Nat.lt_of_lt_of_le (List.getElem?_eq_some_iff.mp hy).1 q.1
  have q2 := q.2 ⟨i, hi⟩
  dsimp only at q2
  rw [hy] at q2
  simp only [Option.all_some, Bool.and_eq_true, decide_eq_true_eq] at q2
  exact ⟨q2.1.1.1, q2.1.1.2, q2.1.2, q2.2⟩
theorem mem_lights {s : St} {x y : Nat} : y ∈ lights s x ↔ y = x ∨ ∃ w, w < 4 ∧ y ∈ cut (isPillar s) (ray (plain s.rows s.cols) w 6 x) := by
  unfold lights
  rw [List.mem_cons, List.mem_flatMap]
  constructor
  · rintro (h | ⟨w, hw, hy⟩)
    · exact .inl h
    · exact .inr ⟨w, List.mem_range.mp hw, by rw [← ray_plain]; exact hy⟩
  · rintro (h | ⟨w, hw, hy⟩)
    · exact .inl h
    · exact .inr ⟨w, List.mem_range.mpr hw, by rw [ray_plain]; exact hy⟩
theorem mem_litFrom {s : St} {x y : Nat} (h : Size s.rows s.cols) (hx : x < s.rows * s.cols) : y ∈ litFrom (isPillar s) s.rows s.cols x ↔ y ∈ lights s x := by
  rw [mem_lights]
  unfold litFrom
  rw [lines_eq h hx, List.mem_cons, List.mem_flatMap]
  constructor
  · rintro (h | ⟨l, hl, hy⟩)
    · exact .inl h
    · refine .inr ?_
      simp only [List.mem_cons, List.not_mem_nil, or_false] at hl
      rcases hl with rfl | rfl | rfl | rfl
      · exact ⟨0, by decide, hy⟩
      · exact ⟨3, by decide, hy⟩
      · exact ⟨1, by decide, hy⟩
      · exact ⟨2, by decide, hy⟩
  · rintro (h | ⟨w, hw, hy⟩)
    · exact .inl h
    · refine .inr ⟨_, ?_, hy⟩
      match w, hw with
      | 0, _ => simp
      | 1, _ => simp
      | 2, _ => simp
      | 3, _ => simp
theorem self_lights (s : St) (x : Nat) : x ∈ lights s x := by
  unfold lights
  exact List.mem_cons_self
theorem mem_free {s : St} {x : Nat} : x ∈ free s ↔ x < s.rows * s.cols ∧ isPillar s x = false := by
  unfold free size
  rw [List.mem_filter, List.mem_range]
  cases isPillar s x <;> simp
/-- light goes both ways -/
theorem lights_symm {s : St} {x y : Nat} (h : Size s.rows s.cols) (hx : x ∈ free s) (hy : y ∈ lights s x) : x ∈ lights s y := by
  have hx' := mem_free.mp hx
  rw [mem_lights] at hy ⊢
  rcases hy with rfl | ⟨w, hw, hy⟩
  · exact .inl rfl
  · obtain ⟨i, h1, h2, h3⟩ := mem_cut.mp hy
    obtain ⟨b1, b2, b3, b4⟩ := back h hx'.1 hw h1
    refine .inr ⟨opp w, Nat.mod_lt _ (by decide), mem_cut.mpr ⟨i, b3, hx'.2, ?_⟩⟩
    intro z hz
    rw [b4, List.mem_reverse] at hz
    exact h3 z hz
theorem lights_free {s : St} {x y : Nat} (h : Size s.rows s.cols) (hx : x ∈ free s) (hy : y ∈ lights s x) : y ∈ free s := by
  have hx' := mem_free.mp hx
  rw [mem_lights] at hy
  rcases hy with rfl | ⟨w, hw, hy⟩
  · exact hx
  · obtain ⟨i, h1, h2, h3⟩ := mem_cut.mp hy
    obtain ⟨b1, b2, b3, b4⟩ := back h hx'.1 hw h1
    exact mem_free.mpr ⟨b1, h2⟩
/-! the cells beside one -/
theorem beside_all : ∀ r c : Fin 5, ∀ x : Fin 16, 1 ≤ r.1 → 1 ≤ c.1 → x.1 < r.1 * c.1 → (besideM r.1 c.1 x.1).isPerm (beside (plain r.1 c.1) x.1) = true := by decide +kernel
theorem beside_perm {s : St} {x : Nat} (h : Size s.rows s.cols) (hx : x < s.rows * s.cols) : (besideM s.rows s.cols x).Perm (beside s x) :=
  List.isPerm_iff.mp (beside_all ⟨s.rows, Nat.lt_succ_of_le h.r4⟩ ⟨s.cols, Nat.lt_succ_of_le h.c4⟩ ⟨x, lt16 h hx⟩ h.r1 h.c1 hx)
/-- no cell is lit twice -/
theorem lines_nodup_all : ∀ r c : Fin 5, ∀ x : Fin 16, 1 ≤ r.1 → 1 ≤ c.1 → x.1 < r.1 * c.1 → (x.1 :: (lines r.1 c.1 x.1).flatMap id).Nodup ∧ (∀ y ∈ (lines r.1 c.1 x.1).flatMap id, y < 16) := by decide +kernel
theorem cut_sub (P : Nat → Bool) : ∀ L : List (List Nat), (L.flatMap (cut P)).Sublist (L.flatMap id)
  | [] => .slnil
  | l :: L => by
    rw [List.flatMap_cons, List.flatMap_cons]
    exact List.Sublist.append (List.takeWhile_sublist _) (cut_sub P L)
theorem litFrom_nodup (P : Nat → Bool) {r c x : Nat} (h : Size r c) (hx : x < r * c) : (litFrom P r c x).Nodup := by
  have q := (lines_nodup_all ⟨r, Nat.lt_succ_of_le h.r4⟩ ⟨c, Nat.lt_succ_of_le h.c4⟩ ⟨x, lt16 h hx⟩ h.r1 h.c1 hx).1
  exact List.Sublist.nodup ((cut_sub P _).cons_cons x) q
theorem litFrom_lt16 (P : Nat → Bool) {r c x : Nat} (h : Size r c) (hx : x < r * c) : ∀ y ∈ litFrom P r c x, y < 16 := by
  have q := (lines_nodup_all ⟨r, Nat.lt_succ_of_le h.r4⟩ ⟨c, Nat.lt_succ_of_le h.c4⟩ ⟨x, lt16 h hx⟩ h.r1 h.c1 hx).2
  intro y hy
  rcases List.mem_cons.mp hy with rfl | hy
  · exact lt16 h hx
  · exact q y ((cut_sub P _).subset hy)
end La
set_option maxRecDepth 100000
set_option maxHeartbeats 4000000
namespace La
open Sy85
/-! ### bits -/
theorem add_or {a b : Nat} (h : a &&& b = 0) : a + b = a ||| b := by
  obtain ⟨w, ha, hb⟩ : ∃ w, a < 2 ^ w ∧ b < 2 ^ w := ⟨a + b, Nat.lt_of_le_of_lt (Nat.le_add_right a b) Nat.lt_two_pow_self, Nat.lt_of_le_of_lt (Nat.le_add_left b a) Nat.lt_two_pow_self⟩
  have e : (BitVec.ofNat w a) &&& (BitVec.ofNat w b) = 0#w := by
    apply BitVec.eq_of_toNat_eq
    rw [BitVec.toNat_and, BitVec.toNat_ofNat, BitVec.toNat_ofNat, Nat.mod_eq_of_lt ha, Nat.mod_eq_of_lt hb, h]
    simp
  have e1 := BitVec.toNat_add_of_and_eq_zero e
  rw [BitVec.add_eq_or_of_and_eq_zero _ _ e, BitVec.toNat_or, BitVec.toNat_ofNat, BitVec.toNat_ofNat, Nat.mod_eq_of_lt ha, Nat.mod_eq_of_lt hb] at e1
  exact e1.symm
def bitsOf (l : List Nat) : Nat := (l.map fun x => 2 ^ x).sum
theorem bitsOf_cons (a : Nat) (l : List Nat) : bitsOf (a :: l) = 2 ^ a + bitsOf l := by
  unfold bitsOf
  rw [List.map_cons, List.sum_cons]
theorem testBit_bitsOf : ∀ {l : List Nat}, l.Nodup → ∀ i, (bitsOf l).testBit i = decide (i ∈ l)
  | [], _, i => by simp [bitsOf]
  | a :: l, h, i => by
    have h' := List.nodup_cons.mp h
    have ih := testBit_bitsOf h'.2
    have e : 2 ^ a &&& bitsOf l = 0 := by
      apply Nat.eq_of_testBit_eq
      intro j
      rw [Nat.testBit_and, Nat.zero_testBit, Nat.testBit_two_pow, ih]
      by_cases q : a = j
      · subst q
        simp [h'.1]
      · simp [q]
    rw [bitsOf_cons, add_or e, Nat.testBit_or, ih, Nat.testBit_two_pow]
    by_cases q : a = i
    · subst q
      simp
    · have : ¬ i = a := fun z => q z.symm
      simp [q, this]
/-! ### the order of settings -/
theorem before_irrefl : ∀ l : List Nat, before l l = false
  | [] => rfl
  | a :: l => by
    unfold before
    rw [before_irrefl l]
    simp
theorem before_trans : ∀ {a b c : List Nat}, before a b = true → before b c = true → before a c = true
  | [], [], _, h, _ => by simp [before] at h
  | [], _ :: _, _, h, _ => by simp [before] at h
  | x :: a, [], c, _, h2 => by cases c <;> simp [before] at h2
  | x :: a, y :: b, [], _, _ => rfl
  | x :: a, y :: b, z :: c, h1, h2 => by
    have ih := @before_trans a b c
    simp only [before, Bool.or_eq_true, decide_eq_true_eq, Bool.and_eq_true, beq_iff_eq] at h1 h2 ⊢
    rcases h1 with h1 | ⟨rfl, h1⟩
    · rcases h2 with h2 | ⟨rfl, h2⟩
      · exact .inl (Nat.lt_trans h1 h2)
      · exact .inl h1
    · rcases h2 with h2 | ⟨rfl, h2⟩
      · exact .inl h2
      · exact .inr ⟨rfl, ih h1 h2⟩
theorem before_total : ∀ {a b : List Nat}, a ≠ b → before a b = false → before b a = true
  | [], [], h, _ => absurd rfl h
  | [], _ :: _, _, _ => rfl
  | x :: a, [], _, h => by simp [before] at h
  | x :: a, y :: b, h, h1 => by
    have ih := @before_total a b
    simp only [before, Bool.or_eq_false_iff, decide_eq_false_iff_not, Bool.and_eq_false_iff, beq_eq_false_iff_ne] at h1
    simp only [before, Bool.or_eq_true, decide_eq_true_eq, Bool.and_eq_true, beq_iff_eq]
    obtain ⟨h1, h2⟩ := h1
    by_cases e : x = y
    · subst e
      refine .inr ⟨rfl, ih (fun q => h (by rw [q])) ?_⟩
      rcases h2 with h2 | h2
      · exact absurd rfl h2
      · exact h2
    · exact .inl (by omega)
def Bef (a b : List Nat) : Prop := before a b = true
/-- two rising lists with the same members are one -/
theorem bef_ext : ∀ {L M : List (List Nat)}, L.Pairwise Bef → M.Pairwise Bef → (∀ p, p ∈ L ↔ p ∈ M) → L = M
  | [], [], _, _, _ => rfl
  | [], m :: M, _, _, h => absurd ((h m).mpr List.mem_cons_self) (by simp)
  | l :: L, [], _, _, h => absurd ((h l).mp List.mem_cons_self) (by simp)
  | l :: L, m :: M, hL, hM, h => by
    have hL' := List.pairwise_cons.mp hL
    have hM' := List.pairwise_cons.mp hM
    have e : l = m := by
      rcases List.mem_cons.mp ((h l).mp List.mem_cons_self) with e | h1
      · exact e
      · rcases List.mem_cons.mp ((h m).mpr List.mem_cons_self) with e | h2
        · exact e.symm
        · have := before_trans (hM'.1 l h1) (hL'.1 m h2)
          rw [before_irrefl] at this
          cases this
    subst e
    congr 1
    refine bef_ext hL'.2 hM'.2 fun p => ?_
    constructor
    · intro hp
      rcases List.mem_cons.mp ((h p).mp (List.mem_cons_of_mem _ hp)) with e | h1
      · subst e
        have := hL'.1 p hp
        unfold Bef at this
        rw [before_irrefl] at this
        cases this
      · exact h1
    · intro hp
      rcases List.mem_cons.mp ((h p).mpr (List.mem_cons_of_mem _ hp)) with e | h1
      · subst e
        have := hM'.1 p hp
        unfold Bef at this
        rw [before_irrefl] at this
        cases this
      · exact h1
theorem mem_put {p q : List Nat} : ∀ {L : List (List Nat)}, q ∈ put p L ↔ q = p ∨ q ∈ L
  | [] => by simp [put]
  | r :: L => by
    have ih := mem_put (p := p) (q := q) (L := L)
    unfold put
    by_cases e : p = r
    · subst e
      simp
    · rw [if_neg e]
      by_cases b : before p r = true
      · rw [if_pos b]
        simp
      · rw [if_neg b, List.mem_cons, ih, List.mem_cons]
        exact ⟨fun h => by rcases h with h | h | h <;> simp [h], fun h => by rcases h with h | h | h <;> simp [h]⟩
theorem put_rising {p : List Nat} : ∀ {L : List (List Nat)}, L.Pairwise Bef → (put p L).Pairwise Bef
  | [], _ => by simp [put]
  | r :: L, h => by
    have h' := List.pairwise_cons.mp h
    unfold put
    by_cases e : p = r
    · subst e
      rw [if_pos rfl]
      exact h
    · rw [if_neg e]
      by_cases b : before p r = true
      · rw [if_pos b]
        refine List.pairwise_cons.mpr ⟨?_, h⟩
        intro q hq
        rcases List.mem_cons.mp hq with rfl | hq
        · exact b
        · exact before_trans b (h'.1 q hq)
      · rw [if_neg b]
        refine List.pairwise_cons.mpr ⟨?_, put_rising h'.2⟩
        intro q hq
        rcases mem_put.mp hq with rfl | hq
        · exact before_total e (by simpa using b)
        · exact h'.1 q hq
theorem puts : ∀ (K L : List (List Nat)), L.Pairwise Bef → (K.foldl (fun m p => put p m) L).Pairwise Bef ∧ ∀ q, q ∈ K.foldl (fun m p => put p m) L ↔ q ∈ K ∨ q ∈ L
  | [], L, h => ⟨h, by simp⟩
  | p :: K, L, h => by
    have ih := puts K (put p L) (put_rising h)
    rw [List.foldl_cons]
    refine ⟨ih.1, fun q => ?_⟩
    rw [ih.2 q, mem_put, List.mem_cons]
    exact ⟨fun h => by rcases h with h | h | h <;> simp [h], fun h => by rcases h with (h | h) | h <;> simp [h]⟩
/-! ### rising lists of cells -/
abbrev Rise (l : List Nat) : Prop := l.Pairwise (· < ·)
theorem rise_ext : ∀ {L M : List Nat}, Rise L → Rise M → (∀ p, p ∈ L ↔ p ∈ M) → L = M
  | [], [], _, _, _ => rfl
  | [], m :: M, _, _, h => absurd ((h m).mpr List.mem_cons_self) (by simp)
  | l :: L, [], _, _, h => absurd ((h l).mp List.mem_cons_self) (by simp)
  | l :: L, m :: M, hL, hM, h => by
    have hL' := List.pairwise_cons.mp hL
    have hM' := List.pairwise_cons.mp hM
    have e : l = m := by
      rcases List.mem_cons.mp ((h l).mp List.mem_cons_self) with e | h1
      · exact e
      · rcases List.mem_cons.mp ((h m).mpr List.mem_cons_self) with e | h2
        · exact e.symm
        · have a1 := hM'.1 l h1
          have a2 := hL'.1 m h2
          omega
    subst e
    congr 1
    refine rise_ext hL'.2 hM'.2 fun p => ?_
    constructor
    · intro hp
      rcases List.mem_cons.mp ((h p).mp (List.mem_cons_of_mem _ hp)) with e | h1
      · subst e
        exact absurd (hL'.1 p hp) (Nat.lt_irrefl _)
      · exact h1
    · intro hp
      rcases List.mem_cons.mp ((h p).mpr (List.mem_cons_of_mem _ hp)) with e | h1
      · subst e
        exact absurd (hM'.1 p hp) (Nat.lt_irrefl _)
      · exact h1
theorem mem_insert {n q : Nat} : ∀ {l : List Nat}, q ∈ insert n l ↔ q = n ∨ q ∈ l
  | [] => by simp [Sy85.insert]
  | m :: l => by
    have ih := mem_insert (n := n) (q := q) (l := l)
    unfold Sy85.insert
    by_cases b : n < m
    · rw [if_pos b]
      simp
    · rw [if_neg b]
      by_cases e : n = m
      · subst e
        simp
      · rw [if_neg e, List.mem_cons, ih, List.mem_cons]
        exact ⟨fun h => by rcases h with h | h | h <;> simp [h], fun h => by rcases h with h | h | h <;> simp [h]⟩
theorem insert_rise {n : Nat} : ∀ {l : List Nat}, Rise l → Rise (insert n l)
  | [], _ => by simp [Sy85.insert]
  | m :: l, h => by
    have h' := List.pairwise_cons.mp h
    unfold Sy85.insert
    by_cases b : n < m
    · rw [if_pos b]
      refine List.pairwise_cons.mpr ⟨?_, h⟩
      intro q hq
      rcases List.mem_cons.mp hq with rfl | hq
      · exact b
      · exact Nat.lt_trans b (h'.1 q hq)
    · rw [if_neg b]
      by_cases e : n = m
      · subst e
        rw [if_pos rfl]
        exact h
      · rw [if_neg e]
        refine List.pairwise_cons.mpr ⟨?_, insert_rise h'.2⟩
        intro q hq
        rcases mem_insert.mp hq with rfl | hq
        · omega
        · exact h'.1 q hq
theorem range_rise : ∀ n, Rise (List.range n) := fun n => List.pairwise_lt_range
theorem free_rise (s : St) : Rise (free s) := List.Pairwise.filter _ (range_rise _)
/-! ### settings -/
structure SetOf (s : St) (l : List Nat) : Prop where
  rise : Rise l
  free : ∀ x ∈ l, x ∈ Sy85.free s
  all : ∀ x ∈ Sy85.free s, ∃ z ∈ l, x ∈ lights s z
  none : ∀ x ∈ l, ∀ y ∈ l, y ∈ lights s x → x = y
structure SearchInv (s : St) (lamps lit : List Nat) : Prop where
  rise : Rise lamps
  free : ∀ x ∈ lamps, x ∈ Sy85.free s
  lit : ∀ y, y ∈ lit ↔ ∃ z ∈ lamps, y ∈ lights s z
  none : ∀ x ∈ lamps, ∀ y ∈ lamps, y ∈ lights s x → x = y
theorem inv_start (s : St) : SearchInv s [] [] := ⟨.nil, by simp, by simp, by simp⟩
theorem inv_more {s : St} (h : Size s.rows s.cols) {lamps lit : List Nat} (I : SearchInv s lamps lit) {z : Nat} (hz : z ∈ Sy85.free s) (hl : z ∉ lit) : SearchInv s (insert z lamps) (lit ++ lights s z) := by
  have n1 : ∀ x ∈ lamps, z ∉ lights s x := fun x hx q => hl ((I.lit z).mpr ⟨x, hx, q⟩)
  refine ⟨insert_rise I.rise, ?_, ?_, ?_⟩
  · intro x hx
    rcases mem_insert.mp hx with rfl | hx
    · exact hz
    · exact I.free x hx
  · intro y
    rw [List.mem_append, I.lit]
    constructor
    · rintro (⟨w, hw, q⟩ | q)
      · exact ⟨w, mem_insert.mpr (.inr hw), q⟩
      · exact ⟨z, mem_insert.mpr (.inl rfl), q⟩
    · rintro ⟨w, hw, q⟩
      rcases mem_insert.mp hw with rfl | hw
      · exact .inr q
      · exact .inl ⟨w, hw, q⟩
  · intro x hx y hy q
    rcases mem_insert.mp hx with e1 | hx1
    · rcases mem_insert.mp hy with e2 | hy1
      · rw [e1, e2]
      · rw [e1] at q
        exact absurd (lights_symm h hz q) (n1 y hy1)
    · rcases mem_insert.mp hy with e2 | hy1
      · rw [e2] at q
        exact absurd q (n1 x hx1)
      · exact I.none x hx1 y hy1 q
theorem find_none {s : St} {lit : List Nat} (h : ((free s).find? fun x => !lit.contains x) = none) : ∀ x ∈ free s, x ∈ lit := by
  intro x hx
  have := List.find?_eq_none.mp h x hx
  simpa using this
theorem find_some {s : St} {lit : List Nat} {x : Nat} (h : ((free s).find? fun x => !lit.contains x) = some x) : x ∈ free s ∧ x ∉ lit := by
  refine ⟨List.mem_of_find?_eq_some h, ?_⟩
  have := List.find?_some h
  simpa using this
theorem set_of_full {s : St} {lamps lit : List Nat} (I : SearchInv s lamps lit) (h : ∀ x ∈ free s, x ∈ lit) : SetOf s lamps :=
  ⟨I.rise, I.free, fun x hx => (I.lit x).mp (h x hx), I.none⟩
theorem search_sound {s : St} (h : Size s.rows s.cols) : ∀ (f : Nat) (lamps lit nots : List Nat) (p : List Nat), SearchInv s lamps lit → p ∈ search s f lamps lit nots → SetOf s p
  | 0, _, _, _, _, _, hp => by simp [search] at hp
  | f + 1, lamps, lit, nots, p, I, hp => by
    unfold search at hp
    cases e : ((free s).find? fun x => !lit.contains x) with
    | none =>
      rw [e] at hp
      have : p = lamps := by simpa using hp
      subst this
      exact set_of_full I (find_none e)
    | some x =>
      rw [e] at hp
      have hx := find_some e
      dsimp only at hp
      rw [List.mem_flatMap] at hp
      obtain ⟨⟨z, i⟩, hz, hp⟩ := hp
      have hz' := List.fst_mem_of_mem_zipIdx hz
      rw [List.mem_filter] at hz'
      have hl : z ∉ lit := by
        have := hz'.2
        simp at this
        exact this.1
      exact search_sound h f _ _ _ p (inv_more h I (lights_free h hx.1 hz'.1) hl) hp
theorem filter_lt {p q : Nat → Bool} : ∀ {l : List Nat} {x : Nat}, x ∈ l → p x = true → q x = false → (∀ a, q a = true → p a = true) → (l.filter q).length < (l.filter p).length
  | [], x, h, _, _, _ => by simp at h
  | a :: l, x, h, hp, hq, himp => by
    have mono : ∀ l : List Nat, (l.filter q).length ≤ (l.filter p).length := by
      intro l
      induction l with
      | nil => simp
      | cons b l ih =>
        rw [List.filter_cons, List.filter_cons]
        cases hb : q b with
        | true => rw [himp b hb]; simpa using ih
        | false =>
          cases p b
          · simpa using ih
          · simp; omega
    rw [List.filter_cons, List.filter_cons]
    rcases List.mem_cons.mp h with rfl | h
    · rw [hp, hq]
      have := mono l
      simp
      omega
    · have ih := filter_lt h hp hq himp
      cases hb : q a with
      | true => rw [himp a hb]; simpa using ih
      | false =>
        cases p a
        · simpa using ih
        · simp; omega
/-- the first of a list that lies in p -/
theorem first_in {p : List Nat} : ∀ {c : List Nat}, (∃ z ∈ c, z ∈ p) → ∃ (i z : Nat), c[i]? = some z ∧ z ∈ p ∧ ∀ y ∈ c.take i, y ∉ p
  | [], h => by simp at h
  | a :: c, h => by
    by_cases ha : a ∈ p
    · exact ⟨0, a, rfl, ha, by simp⟩
    · obtain ⟨z, hz, hp⟩ := h
      rcases List.mem_cons.mp hz with rfl | hz
      · exact absurd hp ha
      · obtain ⟨i, z', h1, h2, h3⟩ := first_in ⟨z, hz, hp⟩
        refine ⟨i + 1, z', by simpa using h1, h2, ?_⟩
        intro y hy
        rw [List.take_succ_cons, List.mem_cons] at hy
        rcases hy with rfl | hy
        · exact ha
        · exact h3 y hy
theorem search_complete {s : St} (h : Size s.rows s.cols) : ∀ (f : Nat) (lamps lit nots : List Nat) (p : List Nat), SearchInv s lamps lit → SetOf s p → (∀ x ∈ lamps, x ∈ p) → (∀ x ∈ nots, x ∉ p) →
    ((free s).filter fun x => !lit.contains x).length < f → p ∈ search s f lamps lit nots
  | 0, _, _, _, _, _, _, _, _, hf => absurd hf (Nat.not_lt_zero _)
  | f + 1, lamps, lit, nots, p, I, S, hsub, hnot, hf => by
    unfold search
    cases e : ((free s).find? fun x => !lit.contains x) with
    | none =>
      dsimp only
      have hall := find_none e
      have : p = lamps := by
        refine rise_ext S.rise I.rise fun y => ⟨fun hy => ?_, hsub y⟩
        obtain ⟨z, hz, q⟩ := (I.lit y).mp (hall y (S.free y hy))
        have := S.none z (hsub z hz) y hy q
        rw [← this]
        exact hz
      rw [this]
      simp
    | some x =>
      dsimp only
      have hx := find_some e
      rw [List.mem_flatMap]
      have hex : ∃ z ∈ (lights s x).filter (fun y => !lit.contains y && !nots.contains y), z ∈ p := by
        obtain ⟨z, hz, q⟩ := S.all x hx.1
        refine ⟨z, ?_, hz⟩
        rw [List.mem_filter]
        refine ⟨lights_symm h (S.free z hz) q, ?_⟩
        have a1 : z ∉ nots := fun q => hnot z q hz
        have a2 : z ∉ lit := by
          intro q2
          obtain ⟨w, hw, q3⟩ := (I.lit z).mp q2
          have := S.none w (hsub w hw) z hz q3
          subst this
          exact hx.2 ((I.lit x).mpr ⟨w, hw, q⟩)
        simp [a1, a2]
      obtain ⟨i, z, h1, h2, h3⟩ := first_in hex
      refine ⟨(z, i), List.mem_zipIdx_iff_getElem?.mpr h1, ?_⟩
      have hz' := List.mem_of_getElem? h1
      rw [List.mem_filter] at hz'
      have hl : z ∉ lit := by
        have := hz'.2
        simp at this
        exact this.1
      have hzf := lights_free h hx.1 hz'.1
      refine search_complete h f _ _ _ p (inv_more h I hzf hl) S ?_ ?_ ?_
      · intro y hy
        rcases mem_insert.mp hy with rfl | hy
        · exact h2
        · exact hsub y hy
      · intro y hy
        rcases List.mem_append.mp hy with hy | hy
        · exact hnot y hy
        · exact h3 y hy
      · refine Nat.lt_of_lt_of_le (filter_lt (x := x) hx.1 (by simpa using hx.2) ?_ ?_) (Nat.le_of_lt_succ hf)
        · have := lights_symm h hx.1 hz'.1
          simp [this]
        · intro a ha
          simp at ha ⊢
          exact ha.1
theorem mem_settings {s : St} (h : Size s.rows s.cols) {p : List Nat} : p ∈ settings s ↔ SetOf s p := by
  unfold settings
  rw [(puts _ [] .nil).2 p]
  constructor
  · rintro (q | q)
    · exact search_sound h _ _ _ _ p (inv_start s) q
    · simp at q
  · intro S
    refine .inl (search_complete h _ _ _ _ p (inv_start s) S (by simp) (by simp) ?_)
    have := List.length_filter_le (fun x => !([] : List Nat).contains x) (free s)
    have h2 : (free s).length ≤ size s := by
      unfold free
      exact Nat.le_trans (List.length_filter_le _ _) (by rw [List.length_range]; exact Nat.le_refl _)
    omega
theorem settings_rising (s : St) : (settings s).Pairwise Bef := (puts _ [] .nil).1
/-! ### the program's settings -/
def withAnd (cell light : Nat) (begun : List (List Nat × Nat)) : List (List Nat × Nat) :=
  begun.flatMap fun p => if p.2.testBit cell = false then [(p.1 ++ [cell], p.2 ||| light), p] else [p]
def begunOf (P : Nat → Bool) (r c : Nat) (F : List Nat) : List (List Nat × Nat) :=
  F.foldl (fun b x => withAnd x (bitsOf (litFrom P r c x)) b) [([], 0)]
def freeM (P : Nat → Bool) (r c : Nat) : List Nat := (List.range (r * c)).filter fun x => !P x
def allSettings (P : Nat → Bool) (r c : Nat) : List (List Nat) :=
  ((begunOf P r c (freeM P r c)).filter fun p => p.2 == bitsOf (freeM P r c)).map (·.1)
theorem free_eq (s : St) : freeM (isPillar s) s.rows s.cols = free s := rfl
theorem before_grow : ∀ {a b : List Nat} {c : Nat} {e f : List Nat}, (∀ x ∈ a, x < c) → (f = [] ∨ f = [c]) → before a b = true → before (a ++ e) (b ++ f) = true
  | [], [], c, e, f, _, _, h => by simp [before] at h
  | [], _ :: _, c, e, f, _, _, h => by simp [before] at h
  | x :: a, [], c, e, f, hc, hf, h => by
    rcases hf with rfl | rfl
    · rfl
    · have := hc x List.mem_cons_self
      simp [before, this]
  | x :: a, y :: b, c, e, f, hc, hf, h => by
    have ih := @before_grow a b c e f (fun z hz => hc z (List.mem_cons_of_mem _ hz)) hf
    simp only [List.cons_append, before, Bool.or_eq_true, decide_eq_true_eq, Bool.and_eq_true, beq_iff_eq] at h ⊢
    rcases h with h | ⟨rfl, h⟩
    · exact .inl h
    · exact .inr ⟨rfl, ih h⟩
theorem before_longer : ∀ (a : List Nat) (c : Nat), before (a ++ [c]) a = true
  | [], _ => rfl
  | x :: a, c => by
    rw [List.cons_append]
    unfold before
    rw [before_longer a c]
    simp
structure Beg (s : St) (F : List Nat) (B : List (List Nat × Nat)) : Prop where
  rising : (B.map (·.1)).Pairwise Bef
  each : ∀ p ∈ B, Rise p.1 ∧ (∀ x ∈ p.1, x ∈ F) ∧ (∀ x ∈ p.1, ∀ y ∈ p.1, y ∈ lights s x → x = y) ∧ ∀ i, p.2.testBit i = true ↔ ∃ z ∈ p.1, i ∈ lights s z
  every : ∀ l, Rise l → (∀ x ∈ l, x ∈ F) → (∀ x ∈ l, ∀ y ∈ l, y ∈ lights s x → x = y) → ∃ m, (l, m) ∈ B
theorem beg_start (s : St) : Beg s [] [([], 0)] := by
  refine ⟨by simp, ?_, ?_⟩
  · intro p hp
    have : p = ([], 0) := by simpa using hp
    subst this
    simp
  · intro l _ h _
    refine ⟨0, ?_⟩
    have : l = [] := List.eq_nil_iff_forall_not_mem.mpr fun x hx => by simpa using h x hx
    simp [this]
theorem mem_withAnd {cell light : Nat} {B : List (List Nat × Nat)} {q : List Nat × Nat} : q ∈ withAnd cell light B ↔ q ∈ B ∨ ∃ p ∈ B, p.2.testBit cell = false ∧ q = (p.1 ++ [cell], p.2 ||| light) := by
  unfold withAnd
  rw [List.mem_flatMap]
  constructor
  · rintro ⟨p, hp, hq⟩
    by_cases e : p.2.testBit cell = false
    · rw [if_pos e] at hq
      simp only [List.mem_cons, List.not_mem_nil, or_false] at hq
      rcases hq with rfl | rfl
      · exact .inr ⟨p, hp, e, rfl⟩
      · exact .inl hp
    · rw [if_neg e] at hq
      have : q = p := by simpa using hq
      exact .inl (this ▸ hp)
  · rintro (hq | ⟨p, hp, e, rfl⟩)
    · refine ⟨q, hq, ?_⟩
      by_cases e : q.2.testBit cell = false
      · rw [if_pos e]
        simp
      · rw [if_neg e]
        simp
    · exact ⟨p, hp, by rw [if_pos e]; simp⟩
theorem withAnd_rising {cell light : Nat} : ∀ {B : List (List Nat × Nat)}, (∀ p ∈ B, ∀ x ∈ p.1, x < cell) → (B.map (·.1)).Pairwise Bef → ((withAnd cell light B).map (·.1)).Pairwise Bef
  | [], _, _ => by simp [withAnd]
  | p :: B, hlt, h => by
    rw [List.map_cons, List.pairwise_cons] at h
    have ih := withAnd_rising (light := light) (fun q hq => hlt q (List.mem_cons_of_mem _ hq)) h.2
    have e : withAnd cell light (p :: B) = (if p.2.testBit cell = false then [(p.1 ++ [cell], p.2 ||| light), p] else [p]) ++ withAnd cell light B := by
      unfold withAnd
      rw [List.flatMap_cons]
    have h3 : ∀ q ∈ withAnd cell light B, ∃ r ∈ B, q.1 = r.1 ++ [] ∨ q.1 = r.1 ++ [cell] := by
      intro q hq
      rcases mem_withAnd.mp hq with hq | ⟨r, hr, _, rfl⟩
      · exact ⟨q, hq, .inl (by simp)⟩
      · exact ⟨r, hr, .inr rfl⟩
    have h4 : ∀ (t : List Nat) , ∀ q ∈ withAnd cell light B, Bef (p.1 ++ t) q.1 := by
      intro t q hq
      obtain ⟨r, hr, hh⟩ := h3 q hq
      have hb := h.1 r.1 (List.mem_map_of_mem hr)
      rcases hh with hh | hh
      · rw [hh]
        exact before_grow (hlt p List.mem_cons_self) (.inl rfl) hb
      · rw [hh]
        exact before_grow (hlt p List.mem_cons_self) (.inr rfl) hb
    rw [e, List.map_append, List.pairwise_append]
    refine ⟨?_, ih, ?_⟩
    · split
      · simp only [List.map_cons, List.map_nil, List.pairwise_cons, List.mem_cons, List.not_mem_nil, or_false, List.Pairwise.nil, and_true]
        refine ⟨?_, by simp⟩
        intro a ha
        rw [ha]
        exact before_longer _ _
      · simp
    · intro a ha b hb
      rw [List.mem_map] at ha hb
      obtain ⟨u, hu, rfl⟩ := ha
      obtain ⟨v, hv, rfl⟩ := hb
      have : u.1 = p.1 ++ [] ∨ u.1 = p.1 ++ [cell] := by
        split at hu
        · simp only [List.mem_cons, List.not_mem_nil, or_false] at hu
          rcases hu with rfl | rfl
          · exact .inr rfl
          · exact .inl (by simp)
        · have : u = p := by simpa using hu
          rw [this]
          exact .inl (by simp)
      rcases this with q | q
      · rw [q]
        exact h4 _ v hv
      · rw [q]
        exact h4 _ v hv
theorem rise_append {l : List Nat} {c : Nat} (h : Rise l) (hc : ∀ x ∈ l, x < c) : Rise (l ++ [c]) := by
  rw [Rise, List.pairwise_append]
  exact ⟨h, by simp, fun a ha b hb => by have : b = c := by simpa using hb
                                         rw [this]; exact hc a ha⟩
/-- a rising list whose greatest may be c -/
theorem rise_split {F : List Nat} {c : Nat} (hF : ∀ x ∈ F, x < c) {l : List Nat} (h : Rise l) (hs : ∀ x ∈ l, x ∈ F ++ [c]) : (∀ x ∈ l, x ∈ F) ∨ ∃ k, l = k ++ [c] ∧ ∀ x ∈ k, x ∈ F := by
  by_cases hc : c ∈ l
  · refine .inr ?_
    obtain ⟨k, t, rfl⟩ := List.append_of_mem hc
    rw [Rise, List.pairwise_append] at h
    have ht : t = [] := by
      refine List.eq_nil_iff_forall_not_mem.mpr fun x hx => ?_
      have h1 := (List.pairwise_cons.mp h.2.1).1 x hx
      have h2 := hs x (by simp [hx])
      rcases List.mem_append.mp h2 with h2 | h2
      · have := hF x h2
        omega
      · have : x = c := by simpa using h2
        omega
    subst ht
    refine ⟨k, rfl, fun x hx => ?_⟩
    have h1 := h.2.2 x hx c List.mem_cons_self
    rcases List.mem_append.mp (hs x (by simp [hx])) with h2 | h2
    · exact h2
    · have : x = c := by simpa using h2
      omega
  · refine .inl fun x hx => ?_
    rcases List.mem_append.mp (hs x hx) with h2 | h2
    · exact h2
    · have : x = c := by simpa using h2
      subst this
      exact absurd hx hc
theorem beg_more {s : St} (h : Size s.rows s.cols) {F : List Nat} {B : List (List Nat × Nat)} {c : Nat} (hF : ∀ x ∈ F, x < c) (hFf : ∀ x ∈ F, x ∈ free s) (hc : c ∈ free s) (b : Beg s F B) :
    Beg s (F ++ [c]) (withAnd c (bitsOf (litFrom (isPillar s) s.rows s.cols c)) B) := by
  have hcl := (mem_free.mp hc).1
  have hlit : ∀ i, (bitsOf (litFrom (isPillar s) s.rows s.cols c)).testBit i = true ↔ i ∈ lights s c := by
    intro i
    rw [testBit_bitsOf (litFrom_nodup _ h hcl), decide_eq_true_eq, mem_litFrom h hcl]
  refine ⟨withAnd_rising (fun p hp x hx => hF x ((b.each p hp).2.1 x hx)) b.rising, ?_, ?_⟩
  · intro q hq
    rcases mem_withAnd.mp hq with hq | ⟨p, hp, e, rfl⟩
    · obtain ⟨a1, a2, a3, a4⟩ := b.each q hq
      exact ⟨a1, fun x hx => List.mem_append_left _ (a2 x hx), a3, a4⟩
    · obtain ⟨a1, a2, a3, a4⟩ := b.each p hp
      have dark : ∀ z ∈ p.1, c ∉ lights s z := by
        intro z hz q
        have := (a4 c).mpr ⟨z, hz, q⟩
        rw [this] at e
        cases e
      refine ⟨rise_append a1 fun x hx => hF x (a2 x hx), ?_, ?_, ?_⟩
      · intro x hx
        rcases List.mem_append.mp hx with hx | hx
        · exact List.mem_append_left _ (a2 x hx)
        · exact List.mem_append_right _ hx
      · intro x hx y hy q
        rcases List.mem_append.mp hx with hx1 | hx1
        · rcases List.mem_append.mp hy with hy1 | hy1
          · exact a3 x hx1 y hy1 q
          · have e1 : y = c := by simpa using hy1
            rw [e1] at q
            exact absurd q (dark x hx1)
        · have e1 : x = c := by simpa using hx1
          rcases List.mem_append.mp hy with hy1 | hy1
          · rw [e1] at q
            exact absurd (lights_symm h hc q) (dark y hy1)
          · have e2 : y = c := by simpa using hy1
            rw [e1, e2]
      · intro i
        rw [Nat.testBit_or, Bool.or_eq_true, a4, hlit]
        constructor
        · rintro (⟨z, hz, q⟩ | q)
          · exact ⟨z, List.mem_append_left _ hz, q⟩
          · exact ⟨c, by simp, q⟩
        · rintro ⟨z, hz, q⟩
          rcases List.mem_append.mp hz with hz | hz
          · exact .inl ⟨z, hz, q⟩
          · have : z = c := by simpa using hz
            subst this
            exact .inr q
  · intro l hl hs hn
    rcases rise_split hF hl hs with h1 | ⟨k, rfl, hk⟩
    · obtain ⟨m, hm⟩ := b.every l hl h1 hn
      exact ⟨m, mem_withAnd.mpr (.inl hm)⟩
    · have hkr : Rise k := (List.pairwise_append.mp hl).1
      obtain ⟨m, hm⟩ := b.every k hkr hk fun x hx y hy => hn x (List.mem_append_left _ hx) y (List.mem_append_left _ hy)
      refine ⟨m ||| _, mem_withAnd.mpr (.inr ⟨(k, m), hm, ?_, rfl⟩)⟩
      cases e : m.testBit c with
      | false => rfl
      | true =>
        obtain ⟨z, hz, q⟩ := ((b.each _ hm).2.2.2 c).mp e
        have h5 := hn z (List.mem_append_left _ hz) c (by simp) q
        have h6 := hF z (hk z hz)
        omega
theorem beg_all {s : St} (h : Size s.rows s.cols) : ∀ (G F : List Nat) (B : List (List Nat × Nat)), Rise (F ++ G) → (∀ x ∈ F ++ G, x ∈ free s) → Beg s F B →
    Beg s (F ++ G) (G.foldl (fun b x => withAnd x (bitsOf (litFrom (isPillar s) s.rows s.cols x)) b) B)
  | [], F, B, _, _, b => by simpa using b
  | c :: G, F, B, hr, hf, b => by
    rw [List.foldl_cons]
    have e : F ++ c :: G = (F ++ [c]) ++ G := by simp
    rw [e] at hr hf ⊢
    refine beg_all h G (F ++ [c]) _ hr hf (beg_more h ?_ ?_ ?_ b)
    · intro x hx
      rw [Rise, List.pairwise_append, List.pairwise_append] at hr
      exact hr.1.2.2 x hx c (by simp)
    · exact fun x hx => hf x (by simp [hx])
    · exact hf c (by simp)
theorem begun_beg {s : St} (h : Size s.rows s.cols) (F : List Nat) (hr : Rise F) (hf : ∀ x ∈ F, x ∈ free s) : Beg s F (begunOf (isPillar s) s.rows s.cols F) := by
  have := beg_all h F [] [([], 0)] (by simpa using hr) (by simpa using hf) (beg_start s)
  rw [List.nil_append] at this
  exact this
theorem settings_eq {s : St} (h : Size s.rows s.cols) : allSettings (isPillar s) s.rows s.cols = settings s := by
  have b := begun_beg h (free s) (free_rise s) (fun _ x => x)
  refine bef_ext ?_ (settings_rising s) fun p => ?_
  · refine List.Pairwise.sublist ?_ b.rising
    exact List.Sublist.map _ List.filter_sublist
  · rw [mem_settings h]
    have nd : (free s).Nodup := List.Pairwise.imp (fun {a b} (q : a < b) => Nat.ne_of_lt q) (free_rise s)
    unfold allSettings
    rw [free_eq, List.mem_map]
    constructor
    · rintro ⟨⟨l, m⟩, hq, rfl⟩
      rw [List.mem_filter, beq_iff_eq] at hq
      obtain ⟨a1, a2, a3, a4⟩ := b.each _ hq.1
      refine ⟨a1, a2, fun x hx => ?_, a3⟩
      have := hq.2
      dsimp only at this
      rw [← a4 x]
      dsimp only
      rw [this, testBit_bitsOf nd]
      simpa using hx
    · intro S
      obtain ⟨m, hm⟩ := b.every p S.rise S.free S.none
      refine ⟨(p, m), ?_, rfl⟩
      rw [List.mem_filter, beq_iff_eq]
      refine ⟨hm, ?_⟩
      dsimp only
      apply Nat.eq_of_testBit_eq
      intro i
      rw [testBit_bitsOf nd]
      have a4 := (b.each _ hm).2.2.2 i
      dsimp only at a4
      cases e : m.testBit i with
      | true =>
        obtain ⟨z, hz, q⟩ := a4.mp e
        have := lights_free h (S.free z hz) q
        simp [this]
      | false =>
        have : i ∉ free s := fun q => by
          have := a4.mpr (S.all i q)
          rw [e] at this
          cases this
        simp [this]
theorem withAnd_length (cell light : Nat) (B : List (List Nat × Nat)) : (withAnd cell light B).length ≤ 2 * B.length := by
  induction B with
  | nil => simp [withAnd]
  | cons p B ih =>
    have e : withAnd cell light (p :: B) = (if p.2.testBit cell = false then [(p.1 ++ [cell], p.2 ||| light), p] else [p]) ++ withAnd cell light B := by
      unfold withAnd
      rw [List.flatMap_cons]
    rw [e, List.length_append, List.length_cons]
    split
    · simp
      omega
    · simp
      omega
theorem fold_length (P : Nat → Bool) (r c : Nat) : ∀ (F : List Nat) (B : List (List Nat × Nat)), (F.foldl (fun b x => withAnd x (bitsOf (litFrom P r c x)) b) B).length ≤ 2 ^ F.length * B.length
  | [], B => by simp
  | x :: F, B => by
    rw [List.foldl_cons, List.length_cons]
    refine Nat.le_trans (fold_length P r c F _) ?_
    have := withAnd_length x (bitsOf (litFrom P r c x)) B
    calc 2 ^ F.length * (withAnd x (bitsOf (litFrom P r c x)) B).length ≤ 2 ^ F.length * (2 * B.length) := Nat.mul_le_mul_left _ this
      _ = 2 ^ (F.length + 1) * B.length := by rw [Nat.pow_succ, Nat.mul_assoc]
end La
set_option maxRecDepth 100000
set_option maxHeartbeats 4000000
namespace La
open Sy85
/-! ### choices of cells, by their size -/
def okAfter (ch : List Nat) (x : Nat) : Bool := match ch.getLast? with
  | none => true
  | some y => decide (y < x)
def ext1 (cells ch : List Nat) : List (List Nat) := (cells.filter (okAfter ch)).map fun x => ch ++ [x]
def comb (k : Nat) (l : List Nat) : List (List Nat) := (choices l).filter fun c => c.length == k
def meets (ch : List Nat) (gs : List (List Nat)) : Bool := gs.all fun g => ch.any fun x => decide (x ∈ g)
theorem comb_zero : ∀ l : List Nat, comb 0 l = [[]]
  | [] => rfl
  | a :: l => by
    have ih := comb_zero l
    unfold comb at ih ⊢
    unfold choices
    rw [List.filter_append, ih, List.filter_map]
    have : ((fun (c : List Nat) => c.length == 0) ∘ fun r => a :: r) = fun _ => false := by
      funext r
      simp
    rw [this]
    simp
theorem comb_nil (k : Nat) : comb (k + 1) [] = [] := by
  unfold comb choices
  simp
theorem comb_cons (k a : Nat) (l : List Nat) : comb (k + 1) (a :: l) = (comb k l).map (fun r => a :: r) ++ comb (k + 1) l := by
  unfold comb
  rw [choices, List.filter_append, List.filter_map]
  congr 2
  apply List.filter_congr
  intro r _
  simp
theorem mem_choices : ∀ {l c : List Nat}, c ∈ choices l → c.Sublist l
  | [], c, h => by
    have : c = [] := by simpa [choices] using h
    rw [this]
    exact List.nil_sublist _
  | a :: l, c, h => by
    unfold choices at h
    rw [List.mem_append, List.mem_map] at h
    rcases h with ⟨r, hr, rfl⟩ | h
    · exact (mem_choices hr).cons_cons a
    · exact (mem_choices h).cons a
theorem mem_comb {k : Nat} {l c : List Nat} (h : c ∈ comb k l) : c.Sublist l ∧ c.length = k := by
  unfold comb at h
  rw [List.mem_filter] at h
  exact ⟨mem_choices h.1, by simpa using h.2⟩
theorem choices_length : ∀ l : List Nat, (choices l).length = 2 ^ l.length
  | [] => rfl
  | a :: l => by
    have ih := choices_length l
    unfold choices
    rw [List.length_append, List.length_map, ih, List.length_cons, Nat.pow_succ]
    omega
theorem comb_length (k : Nat) (l : List Nat) : (comb k l).length ≤ 2 ^ l.length := by
  rw [← choices_length]
  exact List.length_filter_le _ _
theorem filter_none {α : Type} {p : α → Bool} : ∀ {l : List α}, (∀ x ∈ l, p x = false) → l.filter p = []
  | [], _ => rfl
  | a :: l, h => by
    rw [List.filter_cons, h a List.mem_cons_self, filter_none fun x hx => h x (List.mem_cons_of_mem _ hx)]
    rfl
theorem okAfter_last {c : List Nat} (y x : Nat) : okAfter (c ++ [y]) x = decide (y < x) := by
  unfold okAfter
  rw [List.getLast?_concat]
theorem okAfter_cons {c : List Nat} (a x : Nat) (h : c ≠ []) : okAfter (a :: c) x = okAfter c x := by
  unfold okAfter
  rw [List.getLast?_cons_of_ne_nil h]
theorem ext1_cons {a : Nat} {l c : List Nat} (hl : ∀ x ∈ l, a < x) (hc : ∀ x ∈ c, x ∈ l) : ext1 (a :: l) (a :: c) = (ext1 l c).map fun r => a :: r := by
  unfold ext1
  by_cases h : c = []
  · subst h
    have e1 : okAfter [a] a = false := by simp [okAfter]
    have e2 : l.filter (okAfter [a]) = l := List.filter_eq_self.mpr fun x hx => by simp [okAfter, hl x hx]
    have e3 : l.filter (okAfter []) = l := List.filter_eq_self.mpr fun x hx => by simp [okAfter]
    rw [List.filter_cons, e1, e2, e3]
    simp
  · have e0 : okAfter (a :: c) = okAfter c := by
      funext x
      exact okAfter_cons a x h
    obtain ⟨d, y, rfl⟩ : ∃ d y, c = d ++ [y] := ⟨c.dropLast, c.getLast h, (List.dropLast_concat_getLast h).symm⟩
    have e1 : okAfter (d ++ [y]) a = false := by
      rw [okAfter_last]
      have := hl y (hc y (by simp))
      exact decide_eq_false (by omega)
    rw [e0, List.filter_cons, e1]
    simp
theorem ext1_past {a : Nat} {l c : List Nat} (hl : ∀ x ∈ l, a < x) (hc : ∀ x ∈ c, x ∈ l) (h : c ≠ []) : ext1 (a :: l) c = ext1 l c := by
  obtain ⟨d, y, rfl⟩ : ∃ d y, c = d ++ [y] := ⟨c.dropLast, c.getLast h, (List.dropLast_concat_getLast h).symm⟩
  have e1 : okAfter (d ++ [y]) a = false := by
    rw [okAfter_last]
    have := hl y (hc y (by simp))
    exact decide_eq_false (by omega)
  unfold ext1
  rw [List.filter_cons, e1]
  simp
theorem flatMap_congr {α β : Type} {f g : α → List β} : ∀ {l : List α}, (∀ x ∈ l, f x = g x) → l.flatMap f = l.flatMap g
  | [], _ => rfl
  | a :: l, h => by
    rw [List.flatMap_cons, List.flatMap_cons, h a List.mem_cons_self, flatMap_congr fun x hx => h x (List.mem_cons_of_mem _ hx)]
theorem flatMap_map_map {l : List (List Nat)} {f : List Nat → List (List Nat)} (a : Nat) : l.flatMap (fun c => (f c).map fun r => a :: r) = (l.flatMap f).map fun r => a :: r := by
  rw [List.map_flatMap]
/-- a size further -/
theorem comb_more : ∀ (l : List Nat) (k : Nat), Rise l → (comb k l).flatMap (ext1 l) = comb (k + 1) l
  | [], k, _ => by
    rw [comb_nil]
    apply List.eq_nil_iff_forall_not_mem.mpr
    intro c hc
    rw [List.mem_flatMap] at hc
    obtain ⟨d, _, h⟩ := hc
    simp [ext1] at h
  | a :: l, 0, h => by
    have h' := List.pairwise_cons.mp h
    have ih := comb_more l 0 h'.2
    rw [comb_zero] at ih
    have e3 : ∀ m : List Nat, m.filter (okAfter []) = m := fun m => List.filter_eq_self.mpr fun x hx => by simp [okAfter]
    rw [comb_zero, comb_cons, comb_zero, ← ih]
    simp [ext1, e3]
  | a :: l, k + 1, h => by
    have h' := List.pairwise_cons.mp h
    have ih1 := comb_more l k h'.2
    have ih2 := comb_more l (k + 1) h'.2
    rw [comb_cons, List.flatMap_append, comb_cons (k + 1), List.flatMap_map]
    congr 1
    · rw [← ih1, ← flatMap_map_map]
      apply flatMap_congr
      intro c hc
      exact ext1_cons h'.1 fun x hx => (mem_comb hc).1.subset hx
    · rw [← ih2]
      apply flatMap_congr
      intro c hc
      refine ext1_past h'.1 (fun x hx => (mem_comb hc).1.subset hx) ?_
      intro e
      have := (mem_comb hc).2
      rw [e] at this
      simp at this
theorem comb_full (l : List Nat) : l ∈ comb l.length l := by
  unfold comb
  rw [List.mem_filter]
  refine ⟨?_, by simp⟩
  induction l with
  | nil => simp [choices]
  | cons a l ih =>
    unfold choices
    rw [List.mem_append, List.mem_map]
    exact .inl ⟨l, ih, rfl⟩
/-- the smallest choice that meets all groups, the first of them -/
structure Least (cells : List Nat) (gs : List (List Nat)) (ch : List Nat) : Prop where
  h : ∃ k i, (comb k cells)[i]? = some ch ∧ meets ch gs = true ∧ (∀ c ∈ (comb k cells).take i, meets c gs = false) ∧ ∀ j, j < k → ∀ c ∈ comb j cells, meets c gs = false
end La
set_option maxRecDepth 100000
set_option maxHeartbeats 4000000
namespace La
open Sy85
/-! ### the hall as it stands -/
def numOf (s : St) (x : Nat) : Option (Option Nat) := (s.pillars.find? fun p => p.1 == x).map (·.2)
structure Wf (s : St) : Prop where
  size : Size s.rows s.cols
  prise : Rise (s.pillars.map (·.1))
  plt : ∀ p ∈ s.pillars, p.1 < s.rows * s.cols
  pnum : ∀ p ∈ s.pillars, ∀ n, p.2 = some n → n ≤ 4
  lrise : Rise s.lamps
  brise : Rise s.bare
  llt : ∀ x ∈ s.lamps, x < s.rows * s.cols ∧ isPillar s x = false
  blt : ∀ x ∈ s.bare, x < s.rows * s.cols ∧ isPillar s x = false
  apart : ∀ x ∈ s.lamps, x ∉ s.bare
theorem isPillar_iff {s : St} {x : Nat} : isPillar s x = true ↔ x ∈ s.pillars.map (·.1) := by
  unfold isPillar
  rw [List.any_eq_true, List.mem_map]
  exact ⟨fun ⟨p, h1, h2⟩ => ⟨p, h1, by simpa using h2⟩, fun ⟨p, h1, h2⟩ => ⟨p, h1, by simpa using h2⟩⟩
theorem find_key {α : Type} : ∀ {l : List (Nat × α)} {p : Nat × α}, (l.map (·.1)).Pairwise (· < ·) → p ∈ l → (l.find? fun q => q.1 == p.1) = some p
  | [], p, _, h => by simp at h
  | q :: l, p, hr, h => by
    rw [List.map_cons, List.pairwise_cons] at hr
    rw [List.find?_cons]
    rcases List.mem_cons.mp h with rfl | h
    · simp
    · have := hr.1 p.1 (List.mem_map_of_mem h)
      have e : (q.1 == p.1) = false := beq_eq_false_iff_ne.mpr (by omega)
      rw [e]
      exact find_key hr.2 h
theorem numOf_mem {s : St} (w : Wf s) {p : Nat × Option Nat} (h : p ∈ s.pillars) : numOf s p.1 = some p.2 := by
  unfold numOf
  rw [find_key w.prise h]
  rfl
theorem numOf_isSome {s : St} {x : Nat} : (numOf s x).isSome = isPillar s x := by
  unfold numOf isPillar
  rw [Option.isSome_map, Bool.eq_iff_iff, List.any_eq_true, List.find?_isSome]
theorem numOf_of {s : St} {x : Nat} {o : Option Nat} (h : numOf s x = some o) : (x, o) ∈ s.pillars := by
  unfold numOf at h
  cases e : (s.pillars.find? fun p => p.1 == x) with
  | none =>
    rw [e] at h
    cases h
  | some p =>
    rw [e] at h
    have h1 := List.mem_of_find?_eq_some e
    have h2 := List.find?_some e
    have h3 : p.2 = o := Option.some.inj h
    have h4 : p.1 = x := by simpa using h2
    rw [← h3, ← h4]
    exact h1
theorem told_eq {s : St} (w : Wf s) : told s = (s.pillars.map (·.1)).filter fun x => !decide (((numOf s x).getD none).getD 9 = 9) := by
  unfold told
  rw [List.filter_map]
  congr 1
  apply List.filter_congr
  intro p hp
  simp only [Function.comp]
  rw [numOf_mem w hp]
  cases e : p.2 with
  | none => rfl
  | some n =>
    have := w.pnum p hp n e
    have : ¬ n = 9 := by omega
    simp [this]
theorem mem_told {s : St} {x : Nat} (w : Wf s) : x ∈ told s ↔ ∃ n, numOf s x = some (some n) := by
  unfold told
  rw [List.mem_map]
  constructor
  · rintro ⟨p, hp, rfl⟩
    rw [List.mem_filter] at hp
    rw [numOf_mem w hp.1]
    cases e : p.2 with
    | none =>
      rw [e] at hp
      simp at hp
    | some n => exact ⟨n, rfl⟩
  · rintro ⟨n, h⟩
    refine ⟨(x, some n), ?_, rfl⟩
    rw [List.mem_filter]
    exact ⟨numOf_of h, rfl⟩
theorem told_rise {s : St} (w : Wf s) : Rise (told s) := by
  rw [told_eq w]
  exact List.Pairwise.filter _ w.prise
theorem told_lt {s : St} (w : Wf s) {x : Nat} (h : x ∈ told s) : x < s.rows * s.cols := by
  obtain ⟨n, hn⟩ := (mem_told w).mp h
  exact w.plt _ (numOf_of hn)
theorem pillars_few {s : St} (w : Wf s) : s.pillars.length ≤ 16 := by
  have h1 : ((List.range 16).filter fun n => decide (n ∈ s.pillars.map (·.1))).Perm (s.pillars.map (·.1)) := by
    refine (List.perm_ext_iff_of_nodup (List.Pairwise.filter _ List.nodup_range) (List.Pairwise.imp (fun {a b} (q : a < b) => Nat.ne_of_lt q) w.prise)).mpr fun n => ?_
    rw [List.mem_filter, List.mem_range, decide_eq_true_eq]
    refine ⟨fun h => h.2, fun h => ⟨?_, h⟩⟩
    obtain ⟨p, hp, rfl⟩ := List.mem_map.mp h
    exact lt16 w.size (w.plt p hp)
  have h2 := h1.length_eq
  rw [List.length_map] at h2
  rw [← h2]
  exact Nat.le_trans (List.length_filter_le _ _) (by rw [List.length_range]; exact Nat.le_refl _)
def cnt (s : St) (x : Nat) (l : List Nat) : Nat := ((besideM s.rows s.cols x).filter fun y => decide (y ∈ l)).length
theorem cnt_eq {s : St} (w : Wf s) {x : Nat} (hx : x < s.rows * s.cols) (l : List Nat) : cnt s x l = ((beside s x).filter fun y => l.contains y).length := by
  unfold cnt
  have e : (fun y => decide (y ∈ l)) = fun y => l.contains y := by
    funext y
    rw [List.contains_eq_mem]
  rw [e]
  exact ((beside_perm w.size hx).filter _).length_eq
def missed (s : St) (l : List Nat) : List Nat := (told s).filter fun x => !decide (cnt s x l = ((numOf s x).getD none).getD 9)
theorem mem_missed {s : St} (w : Wf s) {l : List Nat} {x : Nat} : x ∈ missed s l ↔ ∃ n, (x, some n) ∈ s.pillars ∧ ((beside s x).filter fun y => l.contains y).length ≠ n := by
  unfold missed
  rw [List.mem_filter, mem_told w]
  constructor
  · rintro ⟨⟨n, hn⟩, h⟩
    rw [hn] at h
    have hm := numOf_of hn
    rw [cnt_eq w (w.plt _ hm)] at h
    exact ⟨n, hm, by simpa using h⟩
  · rintro ⟨n, hm, h⟩
    have hn := numOf_mem w hm
    refine ⟨⟨n, hn⟩, ?_⟩
    rw [hn, cnt_eq w (w.plt _ hm)]
    simpa using h
theorem missed_counted {s : St} (w : Wf s) (l : List Nat) : decide ((missed s l).length = 0) = counted s l := by
  have h : (missed s l).length = 0 ↔ counted s l = true := by
    rw [List.length_eq_zero_iff, List.eq_nil_iff_forall_not_mem]
    unfold counted
    rw [List.all_eq_true]
    constructor
    · intro h p hp
      obtain ⟨x, o⟩ := p
      cases o with
      | none => rfl
      | some n =>
        have := h x
        rw [mem_missed w] at this
        by_cases c : ((beside s x).filter fun y => l.contains y).length = n
        · simpa using c
        · exact absurd ⟨n, hp, c⟩ this
    · intro h x hx
      obtain ⟨n, hp, c⟩ := (mem_missed w).mp hx
      have := h _ hp
      simp only [Option.all_some, beq_iff_eq] at this
      exact c this
  by_cases c : counted s l = true
  · rw [c]
    exact decide_eq_true (h.mpr c)
  · have c' : counted s l = false := by simpa using c
    rw [c']
    exact decide_eq_false fun x => c (h.mp x)
theorem missed_empty {s : St} (w : Wf s) (l : List Nat) : missed s l = [] ↔ counted s l = true := by
  rw [← missed_counted w, decide_eq_true_eq, List.length_eq_zero_iff]
theorem missed_sub {s : St} (l : List Nat) : (missed s l).Sublist (told s) := List.filter_sublist
/-! ### fewest -/
theorem keep_counted {s : St} (w : Wf s) {k : List Nat} (l : List Nat) : counted (keep s k) l = !(k.any fun x => decide (x ∈ missed s l)) := by
  rw [Bool.eq_iff_iff, Bool.not_eq_true', List.any_eq_false]
  unfold counted keep
  dsimp only
  rw [List.all_map, List.all_eq_true]
  constructor
  · intro h x hx hm
    rw [decide_eq_true_eq, mem_missed w] at hm
    obtain ⟨n, hp, c⟩ := hm
    have := h _ hp
    simp only [Function.comp] at this
    rw [if_pos (by simpa using hx)] at this
    simp only [Option.all_some, beq_iff_eq] at this
    exact c this
  · intro h p hp
    obtain ⟨x, o⟩ := p
    simp only [Function.comp]
    by_cases hx : k.contains x = true
    · rw [if_pos hx]
      cases o with
      | none => rfl
      | some n =>
        have := h x (by simpa using hx)
        rw [decide_eq_true_eq, mem_missed w] at this
        by_cases c : ((beside s x).filter fun y => l.contains y).length = n
        · simp only [Option.all_some, beq_iff_eq]
          exact c
        · exact absurd ⟨n, hp, c⟩ this
    · rw [if_neg hx]
      rfl
/-- the rulings-out: what each other setting misses -/
def ruled (s : St) (t : List (List Nat)) : List (List Nat) := (t.map (missed s)).filter fun c => decide (0 < c.length)
theorem ruled_count {s : St} (w : Wf s) : ∀ t : List (List Nat), (ruled s t).length + (t.filter (counted s)).length = t.length
  | [] => rfl
  | l :: t => by
    have ih := ruled_count w t
    unfold ruled at ih ⊢
    rw [List.map_cons, List.filter_cons, List.filter_cons]
    have e := missed_counted w l
    by_cases c : counted s l = true
    · rw [c] at e ⊢
      have e' : ¬ 0 < (missed s l).length := by
        have := of_decide_eq_true e
        omega
      simp only [e', decide_false, Bool.false_eq_true, if_false, if_true, List.length_cons]
      omega
    · have c' : counted s l = false := by simpa using c
      rw [c'] at e ⊢
      have e' : 0 < (missed s l).length := by
        have := of_decide_eq_false e
        omega
      simp only [e', decide_true, Bool.false_eq_true, if_false, if_true, List.length_cons]
      omega
theorem kept_count {s : St} (w : Wf s) (k : List Nat) : ∀ t : List (List Nat), (t.filter (counted (keep s k))).length = (t.filter (counted s)).length + ((ruled s t).filter fun c => !(k.any fun x => decide (x ∈ c))).length
  | [] => rfl
  | l :: t => by
    have ih := kept_count w k t
    unfold ruled at ih ⊢
    rw [List.map_cons, List.filter_cons, List.filter_cons (p := counted s), List.filter_cons (p := fun c : List Nat => decide (0 < c.length))]
    have e := missed_counted w l
    have e2 := keep_counted w (k := k) l
    by_cases c : counted s l = true
    · have m0 := (missed_empty w l).mpr c
      rw [m0] at e2
      have e2' : counted (keep s k) l = true := by
        rw [e2]
        simp
      rw [c, e2', m0]
      simp only [if_true, List.length_cons, List.length_nil, Nat.lt_irrefl, decide_false, Bool.false_eq_true, if_false]
      omega
    · have c' : counted s l = false := by simpa using c
      rw [c'] at e ⊢
      have e' : 0 < (missed s l).length := by
        have := of_decide_eq_false e
        omega
      simp only [e', decide_true, if_true, Bool.false_eq_true, if_false]
      rw [List.filter_cons (p := fun c : List Nat => !(k.any fun x => decide (x ∈ c))), ← e2]
      by_cases d : counted (keep s k) l = true
      · rw [d]
        simp only [if_true, List.length_cons]
        omega
      · have d' : counted (keep s k) l = false := by simpa using d
        rw [d']
        simp only [Bool.false_eq_true, if_false]
        exact ih
theorem all_iff_none {α : Type} {p : α → Bool} : ∀ {l : List α}, l.all p = true ↔ (l.filter fun c => !p c).length = 0
  | [] => by simp
  | a :: l => by
    have ih := all_iff_none (p := p) (l := l)
    rw [List.all_cons, List.filter_cons]
    cases p a with
    | true => simpa using ih
    | false => simp
theorem one_iff_meets {s : St} (w : Wf s) (t : List (List Nat)) (h1 : (t.filter (counted s)).length = 1) (k : List Nat) : ((t.filter (counted (keep s k))).length == 1) = meets k (ruled s t) := by
  rw [Bool.eq_iff_iff, beq_iff_eq, kept_count w k t, h1]
  unfold meets
  rw [all_iff_none]
  omega
abbrev less : Option (List Nat) → List Nat → Option (List Nat) := fun m k => match m with
  | none => some k
  | some j => if k.length < j.length then some k else some j
theorem fold_less_some : ∀ (L : List (List Nat)) (j : List Nat), (∀ c ∈ L, ¬ c.length < j.length) → L.foldl less (some j) = some j
  | [], _, _ => rfl
  | c :: L, j, h => by
    rw [List.foldl_cons]
    have : less (some j) c = some j := if_neg (h c List.mem_cons_self)
    rw [this]
    exact fold_less_some L j fun d hd => h d (List.mem_cons_of_mem _ hd)
/-- the first of the smallest -/
theorem fold_less : ∀ (L : List (List Nat)) (m : Option (List Nat)) (ch : List Nat) (i : Nat), L[i]? = some ch → (∀ j, m = some j → ch.length < j.length) → (∀ c ∈ L.take i, ch.length < c.length) → (∀ c ∈ L, ch.length ≤ c.length) → L.foldl less m = some ch
  | [], _, _, _, h, _, _, _ => by simp at h
  | c :: L, m, ch, 0, h, hm, _, h3 => by
    have e : c = ch := Option.some.inj h
    subst e
    rw [List.foldl_cons]
    have : less m c = some c := by
      cases m with
      | none => rfl
      | some j => exact if_pos (hm j rfl)
    rw [this]
    exact fold_less_some L c fun d hd => by have := h3 d (List.mem_cons_of_mem _ hd); omega
  | c :: L, m, ch, i + 1, h, hm, h2, h3 => by
    rw [List.foldl_cons]
    have hc : ch.length < c.length := h2 c (by rw [List.take_succ_cons]; exact List.mem_cons_self)
    refine fold_less L (less m c) ch i (by simpa using h) ?_ (fun d hd => h2 d (by rw [List.take_succ_cons]; exact List.mem_cons_of_mem _ hd)) fun d hd => h3 d (List.mem_cons_of_mem _ hd)
    intro j hj
    cases m with
    | none =>
      have : c = j := Option.some.inj hj
      rw [← this]
      exact hc
    | some j0 =>
      have h0 := hm j0 rfl
      unfold less at hj
      dsimp only at hj
      split at hj
      · have : c = j := Option.some.inj hj
        rw [← this]
        exact hc
      · have : j0 = j := Option.some.inj hj
        rw [← this]
        exact h0
/-- a place in a list filtered -/
theorem filter_place {α : Type} {p : α → Bool} : ∀ {L : List α} {i : Nat} {x : α}, L[i]? = some x → p x = true → (L.filter p)[((L.take i).filter p).length]? = some x ∧ (L.filter p).take ((L.take i).filter p).length = (L.take i).filter p
  | [], i, x, h, _ => by simp at h
  | a :: L, 0, x, h, hp => by
    have e : a = x := Option.some.inj h
    subst e
    simp [hp]
  | a :: L, i + 1, x, h, hp => by
    have ih := filter_place (p := p) (L := L) (i := i) (x := x) (by simpa using h) hp
    rw [List.take_succ_cons, List.filter_cons, List.filter_cons]
    cases p a with
    | true => simpa using ih
    | false => simpa using ih
theorem comb_place {l ch : List Nat} {k i : Nat} (h : (comb k l)[i]? = some ch) : ∃ i', (choices l)[i']? = some ch ∧ ∀ c ∈ (choices l).take i', c.length = k → c ∈ (comb k l).take i := by
  unfold comb at h ⊢
  generalize choices l = L at *
  induction L generalizing i with
  | nil => simp at h
  | cons a L ih =>
    rw [List.filter_cons] at h ⊢
    by_cases e : (a.length == k) = true
    · rw [if_pos e] at h ⊢
      cases i with
      | zero => exact ⟨0, by simpa using h, by simp⟩
      | succ i =>
        obtain ⟨i', h1, h2⟩ := ih (by simpa using h)
        refine ⟨i' + 1, by simpa using h1, fun c hc hk => ?_⟩
        rw [List.take_succ_cons, List.mem_cons] at hc ⊢
        rcases hc with rfl | hc
        · exact .inl rfl
        · exact .inr (h2 c hc hk)
    · rw [if_neg e] at h ⊢
      obtain ⟨i', h1, h2⟩ := ih h
      refine ⟨i' + 1, by simpa using h1, fun c hc hk => ?_⟩
      rw [List.take_succ_cons, List.mem_cons] at hc
      rcases hc with rfl | hc
      · exact absurd (by simpa using hk) e
      · exact h2 c hc hk
theorem fewest_none {s : St} (h : ((settings s).filter (counted s)).length ≠ 1) : fewest s = none := by
  unfold fewest
  dsimp only
  rw [if_pos h]
theorem fewest_some {s : St} (w : Wf s) (h : ((settings s).filter (counted s)).length = 1) {ch : List Nat} (L : Least (told s) (ruled s (settings s)) ch) : fewest s = some ch := by
  obtain ⟨k, i, h1, h2, h3, h4⟩ := L.h
  unfold fewest
  dsimp only
  rw [if_neg (by omega)]
  show ((choices (told s)).filter fun (kk : List Nat) => ((settings s).filter (counted (keep s kk))).length == 1).foldl less none = some ch
  have hlen : ch.length = k := (mem_comb (List.mem_of_getElem? h1)).2
  have e : (fun kk : List Nat => ((settings s).filter (counted (keep s kk))).length == 1) = fun kk => meets kk (ruled s (settings s)) := by
    funext kk
    exact one_iff_meets w _ h kk
  rw [e]
  have low : ∀ c, c ∈ choices (told s) → meets c (ruled s (settings s)) = true → ch.length ≤ c.length := by
    intro c hc hm
    rcases Nat.lt_or_ge c.length k with hl | hl
    · have := h4 c.length hl c (by unfold comb; rw [List.mem_filter]; exact ⟨hc, by simp⟩)
      rw [hm] at this
      cases this
    · omega
  obtain ⟨i', p1, p2⟩ := comb_place h1
  obtain ⟨f1, f2⟩ := filter_place (p := fun kk => meets kk (ruled s (settings s))) p1 h2
  refine fold_less _ none ch _ f1 (fun j hj => by cases hj) ?_ ?_
  · intro c hc
    rw [f2, List.mem_filter] at hc
    have hin := List.mem_of_mem_take hc.1
    have hle := low c hin hc.2
    rcases Nat.lt_or_ge ch.length c.length with hl | hl
    · exact hl
    · have := h3 c (p2 c hc.1 (by omega))
      rw [hc.2] at this
      cases this
  · intro c hc
    rw [List.mem_filter] at hc
    exact low c hc.1 hc.2
theorem told_meets {s : St} (w : Wf s) (t : List (List Nat)) : meets (told s) (ruled s t) = true := by
  unfold meets ruled
  rw [List.all_eq_true]
  intro c hc
  rw [List.mem_filter, List.mem_map] at hc
  obtain ⟨⟨l, _, rfl⟩, h⟩ := hc
  have hp : 0 < (missed s l).length := by simpa using h
  obtain ⟨x, hx⟩ := List.exists_mem_of_length_pos hp
  rw [List.any_eq_true]
  exact ⟨x, (missed_sub l).subset hx, by simpa using hx⟩
/-! ### the fewest lamps -/
theorem small_none {L : List (List Nat)} (h : L.length = 0) : small L = none := by
  rw [List.length_eq_zero_iff] at h
  rw [h]
  rfl
theorem small_some {L : List (List Nat)} {i : Nat} {ch : List Nat} (h : L[i]? = some ch) (hb : ∀ j c, L[j]? = some c → ch.length ≤ c.length ∧ (j < i → ch.length < c.length)) : small L = some ch := by
  show L.foldl less none = some ch
  refine fold_less L none ch i h (fun j hj => by cases hj) ?_ ?_
  · intro c hc
    obtain ⟨j, hj⟩ := List.mem_iff_getElem?.mp hc
    rw [List.getElem?_take] at hj
    by_cases q : j < i
    · rw [if_pos q] at hj
      exact (hb j c hj).2 q
    · rw [if_neg q] at hj
      cases hj
  · intro c hc
    obtain ⟨j, hj⟩ := List.mem_iff_getElem?.mp hc
    exact (hb j c hj).1
end La
set_option maxRecDepth 100000
set_option maxHeartbeats 4000000
namespace La
open Sy85
/-! ### trying lamps out -/
def allFreeM (s : St) (l : List Nat) : Bool := l.all fun x => decide (x < s.rows * s.cols) && !isPillar s x
theorem allFree_iff {s : St} {l : List Nat} : allFreeM s l = true ↔ ∀ x ∈ l, x ∈ free s := by
  unfold allFreeM
  rw [List.all_eq_true]
  constructor
  · intro h x hx
    have := h x hx
    simp only [Bool.and_eq_true, decide_eq_true_eq, Bool.not_eq_true'] at this
    exact mem_free.mpr this
  · intro h x hx
    have := mem_free.mp (h x hx)
    simp [this.1, this.2]
theorem any_off {s : St} {l : List Nat} : (l.any fun x => !(free s).contains x) = !allFreeM s l := by
  rw [Bool.eq_iff_iff, Bool.not_eq_true', ← Bool.not_eq_true, allFree_iff, List.any_eq_true]
  constructor
  · rintro ⟨x, hx, h⟩ q
    have := q x hx
    simp [this] at h
  · intro h
    by_cases c : ∃ x ∈ l, ¬ x ∈ free s
    · obtain ⟨x, hx, hn⟩ := c
      exact ⟨x, hx, by simpa using hn⟩
    · exact absurd (fun x hx => Classical.byContradiction fun hn => c ⟨x, hx, hn⟩) h
def litOther (s : St) (l : List Nat) : Bool := l.any fun x => l.any fun y => (!decide (y = x)) && decide (y ∈ litFrom (isPillar s) s.rows s.cols x)
theorem litOther_eq {s : St} (w : Wf s) {l : List Nat} (h : ∀ x ∈ l, x ∈ free s) : (l.any fun x => l.any fun y => x != y && (lights s x).contains y) = litOther s l := by
  unfold litOther
  rw [Bool.eq_iff_iff, List.any_eq_true, List.any_eq_true]
  constructor
  · rintro ⟨x, hx, h1⟩
    refine ⟨x, hx, ?_⟩
    rw [List.any_eq_true] at h1 ⊢
    obtain ⟨y, hy, h2⟩ := h1
    refine ⟨y, hy, ?_⟩
    simp only [Bool.and_eq_true, bne_iff_ne, ne_eq, List.contains_iff_mem, Bool.not_eq_true', decide_eq_false_iff_not, decide_eq_true_eq] at h2 ⊢
    exact ⟨fun e => h2.1 e.symm, (mem_litFrom w.size (mem_free.mp (h x hx)).1).mpr h2.2⟩
  · rintro ⟨x, hx, h1⟩
    refine ⟨x, hx, ?_⟩
    rw [List.any_eq_true] at h1 ⊢
    obtain ⟨y, hy, h2⟩ := h1
    refine ⟨y, hy, ?_⟩
    simp only [Bool.and_eq_true, bne_iff_ne, ne_eq, List.contains_iff_mem, Bool.not_eq_true', decide_eq_false_iff_not, decide_eq_true_eq] at h2 ⊢
    exact ⟨fun e => h2.1 e.symm, (mem_litFrom w.size (mem_free.mp (h x hx)).1).mp h2.2⟩
def litAll (s : St) (l : List Nat) : List Nat := (List.range 16).filter fun n => l.any fun z => decide (n ∈ litFrom (isPillar s) s.rows s.cols z)
theorem mem_litAll {s : St} (w : Wf s) {l : List Nat} (h : ∀ x ∈ l, x ∈ free s) {n : Nat} : n ∈ litAll s l ↔ ∃ z ∈ l, n ∈ lights s z := by
  unfold litAll
  rw [List.mem_filter, List.mem_range, List.any_eq_true]
  constructor
  · rintro ⟨_, z, hz, q⟩
    exact ⟨z, hz, (mem_litFrom w.size (mem_free.mp (h z hz)).1).mp (by simpa using q)⟩
  · rintro ⟨z, hz, q⟩
    have hzl := (mem_free.mp (h z hz)).1
    have q' := (mem_litFrom w.size hzl).mpr q
    exact ⟨litFrom_lt16 _ w.size hzl n q', z, hz, by simpa using q'⟩
theorem litAll_rise (s : St) (l : List Nat) : Rise (litAll s l) := List.Pairwise.filter _ (range_rise _)
theorem dark_eq {s : St} (w : Wf s) {l : List Nat} (h : ∀ x ∈ l, x ∈ free s) : ((free s).any fun x => !l.any fun y => (lights s y).contains x) = !decide (litAll s l = free s) := by
  rw [Bool.eq_iff_iff, List.any_eq_true, Bool.not_eq_true', decide_eq_false_iff_not]
  constructor
  · rintro ⟨x, hx, h1⟩ e
    rw [← e, mem_litAll w h] at hx
    obtain ⟨z, hz, q⟩ := hx
    rw [Bool.not_eq_true', ← Bool.not_eq_true, List.any_eq_true] at h1
    exact h1 ⟨z, hz, by simpa using q⟩
  · intro e
    refine Classical.byContradiction fun c => e ?_
    refine rise_ext (litAll_rise s l) (free_rise s) fun x => ?_
    rw [mem_litAll w h]
    constructor
    · rintro ⟨z, hz, q⟩
      exact lights_free w.size (h z hz) q
    · intro hx
      refine Classical.byContradiction fun c2 => c ⟨x, hx, ?_⟩
      rw [Bool.not_eq_true', ← Bool.not_eq_true, List.any_eq_true]
      rintro ⟨z, hz, q⟩
      exact c2 ⟨z, hz, by simpa using q⟩
theorem fault_1 {s : St} {l : List Nat} (h : allFreeM s l = false) : fault s l = 1 := by
  unfold fault
  rw [if_pos (by rw [any_off, h]; rfl)]
theorem fault_2 {s : St} (w : Wf s) {l : List Nat} (h : allFreeM s l = true) (h2 : litOther s l = true) : fault s l = 2 := by
  unfold fault
  rw [if_neg (by rw [any_off, h]; decide), if_pos (by rw [litOther_eq w (allFree_iff.mp h), h2])]
theorem fault_3 {s : St} (w : Wf s) {l : List Nat} (h : allFreeM s l = true) (h2 : litOther s l = false) (h3 : ¬ litAll s l = free s) : fault s l = 3 := by
  unfold fault
  rw [if_neg (by rw [any_off, h]; decide), if_neg (by rw [litOther_eq w (allFree_iff.mp h), h2]; decide), if_pos (by rw [dark_eq w (allFree_iff.mp h), decide_eq_false h3]; rfl)]
theorem fault_4 {s : St} (w : Wf s) {l : List Nat} (h : allFreeM s l = true) (h2 : litOther s l = false) (h3 : litAll s l = free s) (h4 : 0 < (missed s l).length) : fault s l = 4 := by
  have c : counted s l = false := by
    rw [← missed_counted w]
    exact decide_eq_false (by omega)
  unfold fault
  rw [if_neg (by rw [any_off, h]; decide), if_neg (by rw [litOther_eq w (allFree_iff.mp h), h2]; decide), if_neg (by rw [dark_eq w (allFree_iff.mp h), decide_eq_true h3]; decide), if_pos c]
theorem fault_0 {s : St} (w : Wf s) {l : List Nat} (h : allFreeM s l = true) (h2 : litOther s l = false) (h3 : litAll s l = free s) (h4 : ¬ 0 < (missed s l).length) : fault s l = 0 := by
  have c : counted s l = true := by
    rw [← missed_counted w]
    exact decide_eq_true (by omega)
  unfold fault
  rw [if_neg (by rw [any_off, h]; decide), if_neg (by rw [litOther_eq w (allFree_iff.mp h), h2]; decide), if_neg (by rw [dark_eq w (allFree_iff.mp h), decide_eq_true h3]; decide), if_neg (by rw [c]; decide)]
/-- marks -/
theorem marked_iff {s : St} (w : Wf s) {l : List Nat} : marked s l = true ↔ ∀ n, (n ∈ s.lamps ∨ n ∈ s.bare) → decide (n ∈ l) = decide (n ∈ s.lamps) := by
  unfold marked
  rw [Bool.and_eq_true, List.all_eq_true, List.all_eq_true]
  constructor
  · rintro ⟨h1, h2⟩ n hn
    by_cases hl : n ∈ s.lamps
    · have := h1 n hl
      simp at this
      simp [this, hl]
    · have := h2 n (hn.resolve_left hl)
      simp at this
      simp [this, hl]
  · intro h
    refine ⟨fun n hn => ?_, fun n hn => ?_⟩
    · have := h n (.inl hn)
      simp [hn] at this
      simpa using this
    · have hl : n ∉ s.lamps := fun q => w.apart n q hn
      have := h n (.inr hn)
      simp [hl] at this
      simpa using this
/-- what lamps light, in order -/
theorem sorted_insert : ∀ (L M : List Nat), Rise M → Rise (L.foldl (fun m n => insert n m) M) ∧ ∀ q, q ∈ L.foldl (fun m n => insert n m) M ↔ q ∈ L ∨ q ∈ M
  | [], M, h => ⟨h, by simp⟩
  | a :: L, M, h => by
    have ih := sorted_insert L (insert a M) (insert_rise h)
    rw [List.foldl_cons]
    refine ⟨ih.1, fun q => ?_⟩
    rw [ih.2 q, mem_insert, List.mem_cons]
    exact ⟨fun h => by rcases h with h | h | h <;> simp [h], fun h => by rcases h with (h | h) | h <;> simp [h]⟩
theorem lit_sorted {s : St} (w : Wf s) {l : List Nat} (h : ∀ x ∈ l, x ∈ free s) : litAll s l = sortedOf (l.flatMap (lights s)) := by
  have q := sorted_insert (l.flatMap (lights s)) [] .nil
  refine rise_ext (litAll_rise s l) q.1 fun n => ?_
  rw [mem_litAll w h]
  show _ ↔ n ∈ (l.flatMap (lights s)).foldl (fun m n => insert n m) []
  rw [q.2 n, List.mem_flatMap]
  simp
end La
set_option maxRecDepth 100000
set_option maxHeartbeats 4000000
namespace La
open Sy85
/-! ### how a call changes the hall -/
theorem mem_putPillar {p q : Nat × Option Nat} : ∀ {l : List (Nat × Option Nat)}, q ∈ putPillar p l → q = p ∨ q ∈ l
  | [], h => by simp [putPillar] at h; exact .inl h
  | r :: l, h => by
    unfold putPillar at h
    split at h
    · rcases List.mem_cons.mp h with h | h
      · exact .inl h
      · exact .inr h
    · split at h
      · rcases List.mem_cons.mp h with h | h
        · exact .inl h
        · exact .inr (List.mem_cons_of_mem _ h)
      · rcases List.mem_cons.mp h with h | h
        · exact .inr (by rw [h]; exact List.mem_cons_self)
        · rcases mem_putPillar h with h | h
          · exact .inl h
          · exact .inr (List.mem_cons_of_mem _ h)
theorem put_keys {p : Nat × Option Nat} {y : Nat} : ∀ {l : List (Nat × Option Nat)}, y ∈ (putPillar p l).map (·.1) ↔ y = p.1 ∨ y ∈ l.map (·.1)
  | [] => by simp [putPillar]
  | r :: l => by
    have ih := put_keys (p := p) (y := y) (l := l)
    unfold putPillar
    split
    · simp
    · split
      · rename_i h
        rw [List.map_cons, List.map_cons, List.mem_cons, List.mem_cons, h]
        exact ⟨fun h => by rcases h with h | h <;> simp [h], fun h => by rcases h with h | h | h <;> simp [h]⟩
      · rw [List.map_cons, List.map_cons, List.mem_cons, List.mem_cons, ih]
        exact ⟨fun h => by rcases h with h | h | h <;> simp [h], fun h => by rcases h with h | h | h <;> simp [h]⟩
theorem put_rise {p : Nat × Option Nat} : ∀ {l : List (Nat × Option Nat)}, Rise (l.map (·.1)) → Rise ((putPillar p l).map (·.1))
  | [], _ => by simp [putPillar]
  | r :: l, h => by
    have h' := List.pairwise_cons.mp (show Rise (r.1 :: l.map (·.1)) from h)
    unfold putPillar
    split
    · rename_i hlt
      refine List.pairwise_cons.mpr ⟨?_, h⟩
      intro q hq
      rcases List.mem_cons.mp (show q ∈ r.1 :: l.map (·.1) from hq) with h | h
      · rw [h]
        exact hlt
      · exact Nat.lt_trans hlt (h'.1 q h)
    · split
      · rename_i heq
        refine List.pairwise_cons.mpr ⟨?_, h'.2⟩
        intro q hq
        show p.1 < q
        rw [heq]
        exact h'.1 q hq
      · refine List.pairwise_cons.mpr ⟨?_, put_rise h'.2⟩
        intro q hq
        show r.1 < q
        rcases put_keys.mp hq with h | h
        · omega
        · exact h'.1 q h
theorem put_find {p : Nat × Option Nat} {y : Nat} : ∀ {l : List (Nat × Option Nat)}, Rise (l.map (·.1)) → ((putPillar p l).find? fun q => q.1 == y) = if y = p.1 then some p else l.find? fun q => q.1 == y
  | [], _ => by
    unfold putPillar
    by_cases h : y = p.1
    · rw [if_pos h, List.find?_cons]
      simp [h]
    · rw [if_neg h, List.find?_cons]
      have : (p.1 == y) = false := beq_eq_false_iff_ne.mpr fun e => h e.symm
      rw [this]
  | r :: l, h => by
    have h' := List.pairwise_cons.mp (show Rise (r.1 :: l.map (·.1)) from h)
    have ih := put_find (p := p) (y := y) h'.2
    unfold putPillar
    split
    · by_cases e : y = p.1
      · rw [if_pos e, List.find?_cons]
        simp [e]
      · rw [if_neg e, List.find?_cons]
        have : (p.1 == y) = false := beq_eq_false_iff_ne.mpr fun q => e q.symm
        rw [this]
    · split
      · rename_i heq
        by_cases e : y = p.1
        · rw [if_pos e, List.find?_cons]
          simp [e]
        · rw [if_neg e, List.find?_cons, List.find?_cons]
          have : (p.1 == y) = false := beq_eq_false_iff_ne.mpr fun q => e q.symm
          rw [← heq, this]
      · rename_i hne
        rw [List.find?_cons, List.find?_cons, ih]
        by_cases e : r.1 = y
        · have e2 : ¬ y = p.1 := fun q => hne (by rw [← q, e])
          rw [if_neg e2, if_neg e2]
        · have : (r.1 == y) = false := beq_eq_false_iff_ne.mpr e
          rw [this]
theorem isPillar_eq {s t : St} (h : s.pillars = t.pillars) (x : Nat) : isPillar s x = isPillar t x := by
  unfold isPillar
  rw [h]
theorem numOf_put {s : St} (w : Wf s) (x : Nat) (o : Option Nat) (y : Nat) : numOf { s with pillars := putPillar (x, o) s.pillars } y = if y = x then some o else numOf s y := by
  unfold numOf
  dsimp only
  rw [put_find w.prise]
  dsimp only
  by_cases h : y = x
  · rw [if_pos h, if_pos h]
    rfl
  · rw [if_neg h, if_neg h]
theorem wf_pillar {s : St} (w : Wf s) {x : Nat} {o : Option Nat} (hx : x < s.rows * s.cols) (ho : ∀ n, o = some n → n ≤ 4) (hl : x ∉ s.lamps) (hb : x ∉ s.bare) : Wf { s with pillars := putPillar (x, o) s.pillars } := by
  have off : ∀ y, y ≠ x → isPillar s y = false → isPillar { s with pillars := putPillar (x, o) s.pillars } y = false := by
    intro y hy h
    rw [← Bool.not_eq_true, isPillar_iff] at h ⊢
    rw [put_keys]
    rintro (q | q)
    · exact hy q
    · exact h q
  refine ⟨w.size, put_rise w.prise, ?_, ?_, w.lrise, w.brise, ?_, ?_, w.apart⟩
  · intro p hp
    rcases mem_putPillar hp with rfl | hp
    · exact hx
    · exact w.plt p hp
  · intro p hp n hn
    rcases mem_putPillar hp with rfl | hp
    · exact ho n hn
    · exact w.pnum p hp n hn
  · intro y hy
    have := w.llt y hy
    exact ⟨this.1, off y (fun e => hl (e ▸ hy)) this.2⟩
  · intro y hy
    have := w.blt y hy
    exact ⟨this.1, off y (fun e => hb (e ▸ hy)) this.2⟩
theorem find_gone (x y : Nat) : ∀ l : List (Nat × Option Nat), ((l.filter fun q => q.1 != x).find? fun q => q.1 == y) = if y = x then none else l.find? fun q => q.1 == y
  | [] => by simp
  | r :: l => by
    have ih := find_gone x y l
    rw [List.filter_cons]
    by_cases e : r.1 = x
    · have : (r.1 != x) = false := by simp [e]
      rw [this]
      simp only [Bool.false_eq_true, if_false]
      rw [ih, List.find?_cons]
      by_cases q : y = x
      · rw [if_pos q, if_pos q]
      · rw [if_neg q, if_neg q]
        have : (r.1 == y) = false := beq_eq_false_iff_ne.mpr (by omega)
        rw [this]
    · have : (r.1 != x) = true := by simp [e]
      rw [this]
      simp only [if_true]
      rw [List.find?_cons, List.find?_cons, ih]
      by_cases q : r.1 = y
      · have q2 : ¬ y = x := by omega
        rw [if_neg q2, if_neg q2]
      · have : (r.1 == y) = false := beq_eq_false_iff_ne.mpr q
        rw [this]
theorem numOf_gone {s : St} (x y : Nat) : numOf { s with pillars := s.pillars.filter fun q => q.1 != x } y = if y = x then none else numOf s y := by
  unfold numOf
  dsimp only
  rw [find_gone]
  by_cases h : y = x
  · rw [if_pos h, if_pos h]
    rfl
  · rw [if_neg h, if_neg h]
theorem wf_gone {s : St} (w : Wf s) (x : Nat) : Wf { s with pillars := s.pillars.filter fun q => q.1 != x } := by
  have off : ∀ y, isPillar s y = false → isPillar { s with pillars := s.pillars.filter fun q => q.1 != x } y = false := by
    intro y h
    rw [← Bool.not_eq_true, isPillar_iff] at h ⊢
    intro m
    obtain ⟨p, hp, rfl⟩ := List.mem_map.mp m
    exact h (List.mem_map_of_mem (List.mem_filter.mp hp).1)
  refine ⟨w.size, ?_, fun p hp => w.plt p (List.mem_filter.mp hp).1, fun p hp => w.pnum p (List.mem_filter.mp hp).1, w.lrise, w.brise, ?_, ?_, w.apart⟩
  · exact List.Pairwise.sublist (List.Sublist.map _ List.filter_sublist) w.prise
  · intro y hy
    have := w.llt y hy
    exact ⟨this.1, off y this.2⟩
  · intro y hy
    have := w.blt y hy
    exact ⟨this.1, off y this.2⟩
theorem wf_begins {r c : Nat} (h : Size r c) : Wf ⟨r, c, [], [], []⟩ :=
  ⟨h, .nil, fun _ h => by simp at h, fun _ h => by simp at h, .nil, .nil, fun _ h => by simp at h, fun _ h => by simp at h, fun _ h => by simp at h⟩
theorem mem_without {x y : Nat} {l : List Nat} : y ∈ (l.filter fun (y : Nat) => y != x) ↔ y ∈ l ∧ y ≠ x := by
  rw [List.mem_filter]
  simp
/-- the hall whose cell x is marked by k -/
def markedBy (s : St) (x k : Nat) : St :=
  let t : St := { s with lamps := s.lamps.filter (fun (y : Nat) => y != x), bare := s.bare.filter fun (y : Nat) => y != x }
  if k = 1 then { t with lamps := Sy85.insert x t.lamps } else if k = 2 then { t with bare := Sy85.insert x t.bare } else t
theorem markedBy_keep (s : St) (x k : Nat) : (markedBy s x k).rows = s.rows ∧ (markedBy s x k).cols = s.cols ∧ (markedBy s x k).pillars = s.pillars := by
  unfold markedBy
  dsimp only
  split
  · exact ⟨rfl, rfl, rfl⟩
  · split
    · exact ⟨rfl, rfl, rfl⟩
    · exact ⟨rfl, rfl, rfl⟩
theorem mem_mlamps (s : St) (x k y : Nat) : y ∈ (markedBy s x k).lamps ↔ (y = x ∧ k = 1) ∨ (y ≠ x ∧ y ∈ s.lamps) := by
  unfold markedBy
  dsimp only
  split
  · rename_i h
    rw [mem_insert, mem_without]
    exact ⟨fun q => by rcases q with q | ⟨q1, q2⟩ <;> simp [*], fun q => by rcases q with ⟨q, _⟩ | ⟨q1, q2⟩ <;> simp [*]⟩
  · rename_i h
    split
    · dsimp only
      rw [mem_without]
      exact ⟨fun q => .inr ⟨q.2, q.1⟩, fun q => by rcases q with ⟨_, q⟩ | q; exact absurd q h; exact ⟨q.2, q.1⟩⟩
    · dsimp only
      rw [mem_without]
      exact ⟨fun q => .inr ⟨q.2, q.1⟩, fun q => by rcases q with ⟨_, q⟩ | q; exact absurd q h; exact ⟨q.2, q.1⟩⟩
theorem mem_mbare (s : St) (x k y : Nat) : y ∈ (markedBy s x k).bare ↔ (y = x ∧ k = 2) ∨ (y ≠ x ∧ y ∈ s.bare) := by
  unfold markedBy
  dsimp only
  split
  · rename_i h
    dsimp only
    rw [mem_without]
    exact ⟨fun q => .inr ⟨q.2, q.1⟩, fun q => by rcases q with ⟨_, q⟩ | q; omega; exact ⟨q.2, q.1⟩⟩
  · split
    · rename_i h
      rw [mem_insert, mem_without]
      exact ⟨fun q => by rcases q with q | ⟨q1, q2⟩ <;> simp [*], fun q => by rcases q with ⟨q, _⟩ | ⟨q1, q2⟩ <;> simp [*]⟩
    · rename_i h
      dsimp only
      rw [mem_without]
      exact ⟨fun q => .inr ⟨q.2, q.1⟩, fun q => by rcases q with ⟨_, q⟩ | q; exact absurd q h; exact ⟨q.2, q.1⟩⟩
theorem wf_mark {s : St} (w : Wf s) {x k : Nat} (hx : x < s.rows * s.cols) (hp : isPillar s x = false) : Wf (markedBy s x k) := by
  obtain ⟨e1, e2, e3⟩ := markedBy_keep s x k
  have ep : ∀ y, isPillar (markedBy s x k) y = isPillar s y := isPillar_eq e3
  have fl : Rise (s.lamps.filter fun (y : Nat) => y != x) := List.Pairwise.filter _ w.lrise
  have fb : Rise (s.bare.filter fun (y : Nat) => y != x) := List.Pairwise.filter _ w.brise
  refine ⟨by rw [e1, e2]; exact w.size, by rw [e3]; exact w.prise, by rw [e1, e2, e3]; exact w.plt, by rw [e3]; exact w.pnum, ?_, ?_, ?_, ?_, ?_⟩
  · unfold markedBy
    dsimp only
    split
    · exact insert_rise fl
    · split
      · exact fl
      · exact fl
  · unfold markedBy
    dsimp only
    split
    · exact fb
    · split
      · exact insert_rise fb
      · exact fb
  · intro y hy
    rw [e1, e2, ep]
    rcases (mem_mlamps s x k y).mp hy with ⟨rfl, _⟩ | ⟨_, h⟩
    · exact ⟨hx, hp⟩
    · exact w.llt y h
  · intro y hy
    rw [e1, e2, ep]
    rcases (mem_mbare s x k y).mp hy with ⟨rfl, _⟩ | ⟨_, h⟩
    · exact ⟨hx, hp⟩
    · exact w.blt y h
  · intro y hy hb
    rcases (mem_mlamps s x k y).mp hy with ⟨h1, h2⟩ | ⟨h1, h2⟩
    · rcases (mem_mbare s x k y).mp hb with ⟨_, h3⟩ | ⟨h3, _⟩
      · omega
      · exact h3 h1
    · rcases (mem_mbare s x k y).mp hb with ⟨h3, _⟩ | ⟨_, h3⟩
      · exact h1 h3
      · exact w.apart y h2 h3
end La
set_option maxRecDepth 100000
set_option maxHeartbeats 4000000
namespace La
open Sy85
/-! ### the calls, read from one list -/
def noOf : Call → Nat
  | .begins _ _ => 0
  | .pillar _ _ => 1
  | .gone _ => 2
  | .mark _ _ => 3
  | .many => 4
  | .show_ _ => 5
  | .sure => 6
  | .tryOut _ => 7
  | .fewest => 8
  | .lamps => 9
  | .lit _ => 10
  | .state => 11
def numsOf : Call → List Nat
  | .begins r c => [r, c]
  | .pillar x n => [x, n]
  | .gone x => [x]
  | .mark x k => [x, k]
  | .many => []
  | .show_ k => [k]
  | .sure => []
  | .tryOut l => l.length :: l
  | .fewest => []
  | .lamps => []
  | .lit l => l.length :: l
  | .state => []
abbrev toI (l : List Nat) : List Int := l.map fun (n : Nat) => (n : Int)
def flat1 (c : Call) : List Nat := noOf c :: numsOf c
abbrev ansOf (s : St) (c : Call) : List Int := Sy85Neutral.out (step s c).2
def run : St → List Call → List (List Int)
  | _, [] => []
  | s, c :: cs => ansOf s c :: run (step s c).1 cs
def after : St → List Call → St
  | s, [] => s
  | s, c :: cs => after (step s c).1 cs
open Sy85Neutral in
theorem natIn_inv {l : List Int} {x : Nat} {r : List Int} (h : natIn l = some (x, r)) : l = (x : Int) :: r := by
  cases l with
  | nil => simp [natIn] at h
  | cons n l =>
    unfold natIn at h
    dsimp only at h
    split at h
    · rename_i hn
      have := Option.some.inj h
      injection this with h1 h2
      rw [← h1, ← h2, Int.toNat_of_nonneg hn.1]
    · cases h
open Sy85Neutral in
theorem many_inv : ∀ {k : Nat} {l : List Int} {xs : List Nat} {r : List Int}, many_ natIn k l = some (xs, r) → l = toI xs ++ r ∧ xs.length = k
  | 0, l, xs, r, h => by
    unfold many_ at h
    have := Option.some.inj h
    injection this with h1 h2
    rw [← h1, ← h2]
    exact ⟨rfl, rfl⟩
  | k + 1, l, xs, r, h => by
    unfold many_ at h
    cases e : natIn l with
    | none =>
      rw [e] at h
      cases h
    | some p =>
      obtain ⟨x, r1⟩ := p
      rw [e] at h
      have h : (many_ natIn k r1).map (fun (y : List Nat × List Int) => (x :: y.1, y.2)) = some (xs, r) := h
      cases e2 : many_ natIn k r1 with
      | none =>
        rw [e2] at h
        cases h
      | some q =>
        obtain ⟨ys, r2⟩ := q
        rw [e2] at h
        have := Option.some.inj h
        injection this with h1 h2
        obtain ⟨h3, h4⟩ := many_inv e2
        rw [← h1, ← h2, natIn_inv e, h3]
        exact ⟨rfl, by rw [List.length_cons, h4]⟩
open Sy85Neutral in
theorem all_inv {A : Type} {x : Option (A × List Int)} {y : A} (h : all_ x = some y) : x = some (y, []) := by
  unfold all_ at h
  cases x with
  | none => cases h
  | some p =>
    obtain ⟨a, r⟩ := p
    have h : (if r.isEmpty = true then some a else none) = some y := h
    split at h
    · rename_i hr
      rw [Option.some.inj h, List.isEmpty_iff.mp hr]
    · cases h
open Sy85Neutral in
theorem some_inv {k : Nat} {l : List Int} {xs : List Nat} (h : all_ (some_ k l) = some xs) : l = toI xs ∧ xs.length = k := by
  have := many_inv (all_inv h)
  rw [List.append_nil] at this
  exact this
open Sy85Neutral in
theorem row_inv {l : List Int} {xs : List Nat} (h : all_ (rowIn l) = some xs) : l = toI (xs.length :: xs) ∧ xs.length ≤ 60 := by
  have h := all_inv h
  unfold rowIn listIn at h
  split at h
  · rename_i n l
    split at h
    · rename_i hn
      obtain ⟨h1, h2⟩ := many_inv h
      rw [List.append_nil] at h1
      refine ⟨?_, by omega⟩
      rw [h1, toI, toI, List.map_cons]
      congr 1
      omega
    · cases h
  · cases h
theorem one_of {xs : List Nat} (h : xs.length = 1) : xs = [Sy85Neutral.g xs 0] := match xs, h with | [a], _ => rfl
theorem two_of {xs : List Nat} (h : xs.length = 2) : xs = [Sy85Neutral.g xs 0, Sy85Neutral.g xs 1] := match xs, h with | [a, b], _ => rfl
theorem nil_of {xs : List Nat} (h : xs.length = 0) : xs = [] := List.length_eq_zero_iff.mp h
open Sy85Neutral in
/-- a call is its numbers -/
theorem callOf_inv {l : List Int} {c : Sy85.Call} (h : callOf l = some c) : l = toI (flat1 c) ∧ (numsOf c).length ≤ 61 := by
  unfold callOf at h
  split at h <;> try (cases h; done)
  all_goals (rw [Option.map_eq_some_iff] at h; obtain ⟨xs, h1, rfl⟩ := h)
  · obtain ⟨e, hl⟩ := some_inv h1
    rw [e, two_of hl]
    exact ⟨rfl, by show 2 ≤ 61; decide⟩
  · obtain ⟨e, hl⟩ := some_inv h1
    rw [e, two_of hl]
    exact ⟨rfl, by show 2 ≤ 61; decide⟩
  · obtain ⟨e, hl⟩ := some_inv h1
    rw [e, one_of hl]
    exact ⟨rfl, by show 1 ≤ 61; decide⟩
  · obtain ⟨e, hl⟩ := some_inv h1
    rw [e, two_of hl]
    exact ⟨rfl, by show 2 ≤ 61; decide⟩
  · obtain ⟨e, hl⟩ := some_inv h1
    rw [e, nil_of hl]
    exact ⟨rfl, by show 0 ≤ 61; decide⟩
  · obtain ⟨e, hl⟩ := some_inv h1
    rw [e, one_of hl]
    exact ⟨rfl, by show 1 ≤ 61; decide⟩
  · obtain ⟨e, hl⟩ := some_inv h1
    rw [e, nil_of hl]
    exact ⟨rfl, by show 0 ≤ 61; decide⟩
  · obtain ⟨e, hl⟩ := row_inv h1
    rw [e]
    exact ⟨rfl, by show xs.length + 1 ≤ 61; omega⟩
  · obtain ⟨e, hl⟩ := some_inv h1
    rw [e, nil_of hl]
    exact ⟨rfl, by show 0 ≤ 61; decide⟩
  · obtain ⟨e, hl⟩ := some_inv h1
    rw [e, nil_of hl]
    exact ⟨rfl, by show 0 ≤ 61; decide⟩
  · obtain ⟨e, hl⟩ := row_inv h1
    rw [e]
    exact ⟨rfl, by show xs.length + 1 ≤ 61; omega⟩
  · obtain ⟨e, hl⟩ := some_inv h1
    rw [e, nil_of hl]
    exact ⟨rfl, by show 0 ≤ 61; decide⟩
abbrev wholeOf (c : List (List Int)) : List Int := (PySy85.whole c).headD []
theorem whole_one (r : List Int) : PySy85.whole [r] = [r] := by
  unfold PySy85.whole
  split <;> first | rfl | (rename_i h; injection h with h1 h2; subst h1; rfl) | (rename_i h; injection h with h1 h2; cases h2)
theorem shape_of {p : Int} {n k : Nat} (h : PySy85.shape p = some (n, k)) : k = 0 ∨ (k = 1 ∧ n = 0 ∧ (p = 7 ∨ p = 10)) := by
  unfold PySy85.shape at h
  repeat' split at h
  all_goals first | (cases h; done) | (injection h with h; injection h with h1 h2; subst h1 h2; first | exact .inl rfl | (refine .inr ⟨rfl, rfl, ?_⟩; omega))
theorem whole_7 (r : List Int) : PySy85.whole [[7], r] = [7 :: (r.length : Int) :: r] := rfl
theorem whole_10 (r : List Int) : PySy85.whole [[10], r] = [10 :: (r.length : Int) :: r] := rfl
theorem call_flat {l t : List Int} {c : List (List Int)} (h : PyFlat.call PySy85.shape l = some (c, t)) : l = wholeOf c ++ t := by
  cases l with
  | nil => cases h
  | cons p r =>
    unfold PyFlat.call at h
    dsimp only at h
    cases e : PySy85.shape p with
    | none =>
      rw [e] at h
      cases h
    | some nk =>
      obtain ⟨n, k⟩ := nk
      rw [e] at h
      dsimp only at h
      split at h
      · cases h
      · rename_i hlen
        rcases shape_of e with rfl | ⟨rfl, rfl, hp⟩
        · unfold PyFlat.rows at h
          injection h with h
          injection h with h1 h2
          rw [← h1, ← h2]
          unfold wholeOf
          rw [whole_one]
          show p :: r = (p :: r.take n) ++ r.drop n
          rw [List.cons_append, List.take_append_drop]
        · rw [List.drop_zero] at h
          cases r with
          | nil =>
            simp [PyFlat.rows, PyFlat.row] at h
          | cons m r =>
            unfold PyFlat.rows PyFlat.row at h
            dsimp only at h
            by_cases hm : 0 ≤ m ∧ m.toNat ≤ r.length
            · rw [if_pos hm] at h
              unfold PyFlat.rows at h
              injection h with h
              injection h with h1 h2
              rw [← h1, ← h2]
              have el : ((r.take m.toNat).length : Int) = m := by
                rw [List.length_take]
                omega
              unfold wholeOf
              rcases hp with rfl | rfl
              · show 7 :: m :: r = (PySy85.whole [[7], r.take m.toNat]).headD [] ++ r.drop m.toNat
                rw [whole_7]
                show 7 :: m :: r = (7 :: ((r.take m.toNat).length : Int) :: r.take m.toNat) ++ r.drop m.toNat
                rw [el, List.cons_append, List.cons_append, List.take_append_drop]
              · show 10 :: m :: r = (PySy85.whole [[10], r.take m.toNat]).headD [] ++ r.drop m.toNat
                rw [whole_10]
                show 10 :: m :: r = (10 :: ((r.take m.toNat).length : Int) :: r.take m.toNat) ++ r.drop m.toNat
                rw [el, List.cons_append, List.cons_append, List.take_append_drop]
            · rw [if_neg hm] at h
              cases h
theorem calls_flat : ∀ (f : Nat) {l : List Int} {raw : List (List (List Int))}, PyFlat.calls PySy85.shape f l = some raw → l = raw.flatMap wholeOf
  | f, [], raw, h => by
    have : raw = [] := by
      cases f <;> (unfold PyFlat.calls at h; injection h with h; exact h.symm)
    rw [this]
    rfl
  | 0, a :: l, raw, h => by
    unfold PyFlat.calls at h
    cases h
  | f + 1, p :: r, raw, h => by
    unfold PyFlat.calls at h
    cases e : PyFlat.call PySy85.shape (p :: r) with
    | none =>
      rw [e] at h
      cases h
    | some ct =>
      obtain ⟨c, t⟩ := ct
      rw [e] at h
      dsimp only at h
      cases e2 : PyFlat.calls PySy85.shape f t with
      | none =>
        rw [e2] at h
        cases h
      | some cs =>
        rw [e2] at h
        injection h with h
        rw [← h, List.flatMap_cons, ← calls_flat f e2]
        exact call_flat e
/-- calls that are all to be read -/
theorem read_all : ∀ {ws : List (List Int)}, (ws.all fun w => (Sy85Neutral.callOf w).isSome) = true → ∃ cs : List Call, ws = cs.map (fun c => toI (flat1 c)) ∧ ws.map Sy85Neutral.callOf = cs.map some ∧ ∀ c ∈ cs, (numsOf c).length ≤ 61
  | [], _ => ⟨[], rfl, rfl, by simp⟩
  | w :: ws, h => by
    rw [List.all_cons, Bool.and_eq_true] at h
    obtain ⟨cs, h1, h2, h3⟩ := read_all h.2
    obtain ⟨c, hc⟩ := Option.isSome_iff_exists.mp h.1
    obtain ⟨e1, e2⟩ := callOf_inv hc
    refine ⟨c :: cs, by rw [List.map_cons, ← e1, ← h1], by rw [List.map_cons, List.map_cons, hc, h2], fun d hd => ?_⟩
    rcases List.mem_cons.mp hd with rfl | hd
    · exact e2
    · exact h3 d hd
theorem played_run : ∀ (raw : List (List (List Int))) (cs : List Call) (s : St), (raw.map (fun c => c.headD [])).map Sy85Neutral.callOf = cs.map some → PyFlat.played (fun s c => Sy85Neutral.step s (c.headD [])) s raw = run s cs
  | [], cs, s, h => by
    have : cs = [] := by
      cases cs with
      | nil => rfl
      | cons a l => simp at h
    rw [this]
    rfl
  | r :: raw, cs, s, h => by
    cases cs with
    | nil => simp at h
    | cons c cs =>
      rw [List.map_cons, List.map_cons, List.map_cons] at h
      injection h with h1 h2
      unfold PyFlat.played run
      have e : Sy85Neutral.step s (r.headD []) = ((step s c).1, ansOf s c) := by
        unfold Sy85Neutral.step
        rw [h1]
      rw [e]
      dsimp only
      rw [played_run raw cs _ h2]
theorem asked_calls {l : List Int} (h : PySy85.answers_asked l = true) : ∃ cs : List Call, l = toI (cs.flatMap flat1) ∧ (∀ c ∈ cs, (numsOf c).length ≤ 61) ∧ PySy85.answers l = PyFlat.told (run init cs) ∧ (PySy85.answers l).length ≤ 10000000 := by
  unfold PySy85.answers_asked at h
  cases e : PyFlat.calls PySy85.shape l.length l with
  | none =>
    rw [e] at h
    cases h
  | some raw =>
    rw [e] at h
    dsimp only at h
    simp only [Bool.and_eq_true] at h
    obtain ⟨⟨_, h4⟩, h5⟩ := h
    unfold Sy85Neutral.asked at h4
    rw [Bool.and_eq_true] at h4
    have h6 := h4.1
    unfold Sy85Neutral.asked1 at h6
    obtain ⟨cs, c1, c2, c3⟩ := read_all h6
    refine ⟨cs, ?_, c3, ?_, ?_⟩
    · rw [calls_flat _ e]
      have e2 : raw.flatMap wholeOf = ((raw.map PySy85.whole).map fun c => c.headD []).flatMap id := by
        rw [List.flatMap_map, List.flatMap_map]
        rfl
      rw [e2, c1, List.flatMap_map, toI, List.map_flatMap]
      rfl
    · unfold PySy85.answers PySy85.calls
      rw [e]
      dsimp only
      rw [played_run _ cs _ c2]
      rfl
    · unfold PyFlat.short at h5
      exact of_decide_eq_true h5
end La
set_option Elab.async false
set_option linter.all false
set_option maxRecDepth 100000
set_option maxHeartbeats 4000000
namespace La
open PySem PySem.Spec PyProof.Rows L2
section
variable {X : Cx}
/-! ### len(set(xs)), items may be there twice -/
def manyIn (ns : List Int) : Nat := (firstMet (fun i => ns.getD i 0) ns.length).length
def tLenSetM (K : PySem.W.Frag) (ta : TE) : TE := fun σ H Q => ta σ H fun x H1 => ∃ (l : Addr) (ns : List Int), x = .ref l ∧ SqL K H1 l (ns.map V.int) ∧ ns.length ≤ 4000 ∧ Q (.int (manyIn ns : Nat)) H1
theorem pe_lenSetM {a : Expr} {ta : TE} {p p2 q pos : Pos} (hg : Gl X "len") (hm : X.mg "len" = none) (hg2 : Gl X "set") (hm2 : X.mg "set" = none) (ha : PE X a ta) (hc : X.calm = true := by rfl)
    (na : starEach [a] X.env = (false, eval a X.env) :: starEach [] X.env := by rfl) : PE X (.Call (.Name "len" p) [.Call (.Name "set" p2) [a] [] q] [] pos) (tLenSetM X.K ta) := by
  constructor
  intro pins s σ H Q I0 run
  refine Call_ (ld_blt I0 hg hm boot_len (PyProof.Rows.callWith_builtin1 (PyProof.Rows.args_cons (Call_ (ld_blt I0 hg2 hm2 boot_set (PyProof.Rows.callWith_type1 (PyProof.Rows.args_cons (thn (ha.run pins s σ H _ I0 run) ?_) na) na rfl))) rfl) rfl rfl))
  rintro w t ⟨x, J, It, rx, l, ns, rfl, seqL, small, fin⟩
  refine PyProof.Rows.args_nil ?_
  cases rx
  obtain ⟨us, vals, at_l, fits⟩ := It.list seqL
  have many : us.toArray.size = ns.length := by
    have := vals.length
    rw [List.length_map] at this
    rw [List.size_toArray, this]
  have allI : PyProof.Rows.IntsAre us.toArray.toList ns := by simpa using RZ.intsAre_vals vals
  have scan : us.toArray.size + 1 < scanBound := by
    rw [many]
    exact Nat.lt_of_le_of_lt (Nat.add_le_add_right small 1) (by decide)
  refine call_set_list (It.ok.hd hc) at_l.isList allI scan fun g tok made old => PyProof.Rows.args_nil ?_
  rw [many] at made
  obtain ⟨so, es, ep, tt, atS, isSet, noD, _, _, _, full, cnt⟩ := made
  have most := firstMet_length_le (fun i => ns.getD i 0) ns.length
  have Ig := It.kept (h' := g) (t' := tok) fun b o here => old b o (Heap.lt_size here) here
  exact call_len_set atS isSet noD full (by rw [cnt]; omega) ⟨.int (manyIn ns : Nat), J, Ig.tok _, ⟨_, by rw [cnt]; rfl⟩, fin⟩
/-! ### d.keys() as a value, sorted of it -/
def keysO (p d : Addr) : HO := .ext fun h => PySem.W.KdlKeysView h p d
theorem keysO_ok {P : Program} {w : World} {H : Hp} {h : Heap} {p d : Addr} (e : h.get? p = some { cls := .type "dict_keys", data := .fields #[.ref d] }) : ObjOk P w H h p (keysO p d) :=
  ⟨⟨_, e, rfl, rfl⟩, ⟨_, e⟩, fun _ _ ⟨o, at_p, more⟩ kept => ⟨o, kept o at_p, more⟩⟩
def rKeysK : V → List V → Hp → VK → Prop := fun x xs H Q => ∃ (a : Addr) (kvs : List (L2.Key × V)), x = .ref a ∧ xs = [] ∧ H a = some (.dK kvs) ∧ ∀ p, H p = none → Q (.ref p) (upd H p (keysO p a))
theorem mt_keysK : MtR X "dict.keys" rKeysK := by
  rintro pins s σ H _ _ v us Q I rx rxs ⟨d, kvs, rfl, rfl, atD, fin⟩
  cases rxs
  cases rx
  obtain ⟨z, lo, vs, like, dd⟩ := dk_of I.hok atD
  have free : H s.heap.objs.size = none := I.hok.fresh (Nat.le_refl _)
  have J := I.laid (t' := s.toks) (a := s.heap.objs.size) (o := keysO s.heap.objs.size d) (fun b u e => Heap.get?_push_of_some _ e) (Nat.le_refl _) (keysO_ok (Heap.get?_push_size _ rfl))
  exact call_meetsIn PySem.F.slot_dict_keys dd.typeIs PySem.F.entry_dict_keys (PySem.F.args_dict_keys_1 _) (PySem.W.kdl_meets_keys (mixKind X.prog X.w) d lo) ⟨⟨vs, dd⟩, ⟨.ref s.heap.objs.size, _, J, rfl, fin _ free⟩⟩
def rSortedKeys : List V → Hp → VK → Prop := fun xs H Q => ∃ (p a : Addr) (kvs : List (L2.Key × V)) (ks : List Int), xs = [.ref p] ∧ H p = some (keysO p a) ∧ H a = some (.dK kvs) ∧ kvs.map (·.1) = ks.map Sum.inl ∧ ks.length < 64 ∧
    ∀ (ys : List Int) (l : Addr), ys.Perm ks → ys.Pairwise (· ≤ ·) → H l = none → Q (.ref l) (upd H l (.lst (ys.map V.int)))
/-- sorted(d.keys()), fewer than 64 keys, all ints -/
theorem ints_of_keys {vs : List (L2.Key × Value)} {us : List Value} {ks : List Int} (e : vs.map (·.1) = ks.map Sum.inl) (n : us.length = vs.length) (a : ∀ (j : Nat) (v : Value), us[j]? = some v → ∃ (k : L2.Key) (x : Value), vs[j]? = some (k, x) ∧ keyIs k v = true) : IntsAre us ks := by
  have same : vs.map (fun p => kV p.1) = ks.map V.int := by
    have := congrArg (List.map kV) e
    rw [List.map_map, List.map_map] at this
    exact this
  exact RZ.intsAre_vals (same ▸ keys_at n a)
theorem cr_sortedKeys (hcalm : X.calm = true) : CallR X (.builtin "sorted") rSortedKeys := by
  rintro pins s σ H _ us Q I given ⟨p, d, kvs, ks, rfl, atP, atD, keys, few, fin⟩
  obtain ⟨u, rfl, ru⟩ := vals1 given
  cases ru
  obtain ⟨z, lo, vs, like, dd⟩ := dk_of I.hok atD
  obtain ⟨ep, raw⟩ := dd.dictAt
  have e0 : vs.map (·.1) = ks.map Sum.inl := like.keys.symm.trans keys
  have nvs : vs.length = ks.length := by simpa using congrArg List.length e0
  have most : (63 : Nat) ≤ sizeLine := by decide
  refine Calls.call_function_entry kind_sorted plain_sorted entry_sorted (args_sorted1 _) ?_
  unfold Builtin.«sorted»
  apply wpAny_bind (m := checkCount "sorted" 1 1 _)
  refine wpAny_pure (wpAny_bind (PySem.W.kdu_collect (A := X.A.in1) (PySem.W.kdl_keys (knd := mixKind X.prog X.w) (r := p) (d := d) (kvs := vs) (ep := ep)) (I.ok.hd hcalm) ⟨(I.hok p _ atP).1, raw⟩ (by omega) fun g tok got old all => ?_))
  obtain ⟨gl, eg⟩ : ∃ gl, gl = got.toList := ⟨_, rfl⟩
  have ngl : gl.length = vs.length := by rw [eg, Array.length_toList, all.1]
  have ig : IntsAre gl ks := ints_of_keys e0 ngl fun j v e => all.2 j v (by rw [← Array.getElem?_toList, ← eg]; exact e)
  rw [← eg]
  have J : L2.Inv X pins σ H { s with heap := g, toks := tok } := I.kept old
  obtain ⟨g2, e2⟩ : ∃ g2, g2 = g.push (seqObj "list" gl.toArray 0) := ⟨_, rfl⟩
  have new : g2.get? g.objs.size = some (seqObj "list" gl.toArray 0) := e2 ▸ Heap.get?_push_size _ rfl
  refine wpAny_bind (wpAny_newList ?_ (by omega))
  show wpAny _ _ _ _ _ { s with heap := g.push _, toks := tok }
  rw [← e2]
  refine wpAny_bind (wpAny_holding (wpAny_call_entry slot_list_sort ⟨_, new, rfl⟩ entry_list_sort (list_sort_tree (s := { s with heap := g2, toks := tok }) new ig (by omega) ?_) (args_list_sort _)))
  intro out ys io perm up
  obtain ⟨c, atL⟩ := sortedHeap_at (vs := gl) (out := out) new
  have fits : (ys.map V.int).length ≤ sizeLine := by
    have := perm.length_eq
    rw [List.length_map]
    omega
  have okL : ObjOk X.prog X.w (upd H g.objs.size (.lst (ys.map V.int))) (sortedHeap g2 g.objs.size gl out) g.objs.size (.lst (ys.map V.int)) := ⟨fits, out.toList, c, vals_of_ints io, by rw [Array.toArray_toList]; exact atL⟩
  refine ⟨_, rfl, wpAny_pure ⟨_, rfl, .ref g.objs.size, _, J.laid (t' := tok) ?_ (Nat.le_refl _) okL, rfl, fin ys _ perm up (J.hok.fresh (Nat.le_refl _))⟩⟩
  intro b o at_b
  have lt : b < g.objs.size := Heap.lt_size at_b
  rw [sortedHeap_old (Nat.ne_of_lt lt) (e2 ▸ size_push' g _ ▸ Nat.lt_succ_of_lt lt), e2]
  exact Heap.get?_push_of_some _ at_b
/-! ### min(xs, key=len) of lists -/
def tMinLen (K : PySem.W.Frag) (ta : TA) : TE := fun σ H Q => ta σ H fun vs H1 => ∃ (l : Addr) (ps : List Addr) (n : Nat → Nat), vs = [V.ref l] ∧ SqL K H1 l (ps.map V.ref) ∧ 0 < ps.length ∧
  (∀ i p, ps[i]? = some p → ∃ ys, SqL K H1 p ys ∧ ys.length = n i) ∧
  ∀ i p, ps[i]? = some p → (∀ j, j < ps.length → n i ≤ n j ∧ (j < i → n i < n j)) → Q (.ref p) H1
theorem best_len (n : Nat → Nat) : ∀ k i, i ≤ k → (n (argBest (fun i j => decide ((n i : Int) < n j)) k) ≤ n i ∧ (i < argBest (fun i j => decide ((n i : Int) < n j)) k → n (argBest (fun i j => decide ((n i : Int) < n j)) k) < n i)) ∧ argBest (fun i j => decide ((n i : Int) < n j)) k ≤ k
  | 0, i, h => by
    have : i = 0 := by omega
    subst this
    exact ⟨⟨Nat.le_refl _, fun h => absurd h (by simp [argBest])⟩, Nat.le_refl _⟩
  | k + 1, i, h => by
    have ih := best_len n k
    have ihk := (ih k (Nat.le_refl _)).2
    unfold argBest
    generalize hb : argBest (fun i j => decide ((n i : Int) < n j)) k = b at *
    by_cases c : (n (k + 1) : Int) < n b
    · simp only [c, decide_true, if_true]
      refine ⟨?_, Nat.le_refl _⟩
      by_cases e : i = k + 1
      · subst e
        exact ⟨Nat.le_refl _, fun h => absurd h (Nat.lt_irrefl _)⟩
      · have := ((ih i (by omega)).1).1
        exact ⟨by omega, fun _ => by omega⟩
    · simp only [c, decide_false, Bool.false_eq_true, if_false]
      refine ⟨?_, by omega⟩
      by_cases e : i = k + 1
      · subst e
        exact ⟨by omega, fun _ => by omega⟩
      · exact (ih i (by omega)).1
theorem pe_minLen {a : Expr} {ta : TA} {p p2 kp pos : Pos} (hg : Gl X "min") (hm : X.mg "min" = none) (hg2 : Gl X "len") (hm2 : X.mg "len" = none) (ha : PA X [a] ta) (hc : X.calm = true := by rfl)
    (he : backTo pos (starEach [a] X.env) = (false, eval a X.env) :: backTo pos (starEach [] X.env) := by rfl) (hpl : (backTo pos (starEach [a] X.env)).any (·.1) = false := by rfl)
    (hall : (backToKw pos (keywordEach [⟨some "key", .Name "len" p2, kp⟩] X.env)).all (·.1.isSome) = true := by rfl) (hnone : (backToKw pos (keywordEach [⟨some "key", .Name "len" p2, kp⟩] X.env)).any (·.1.isNone) = false := by rfl)
    (hks : (backToKw pos (keywordEach [⟨some "key", .Name "len" p2, kp⟩] X.env)).filterMap (·.1) = [Str.ofString "key"] := by rfl) :
    PE X (.Call (.Name "min" p) [a] [⟨some "key", .Name "len" p2, kp⟩] pos) (tMinLen X.K ta) := by
  refine ⟨fun pins s σ H Q I h => ?_⟩
  refine wpAny_Call_Name_kw (ld_blt I hg hm boot_min ?_)
  refine PyProof.Rows.callWith_kw (thn (ha.run pos pins s σ H _ I h) fun us s1 ⟨vs, H1, I1, r1, q1⟩ => ?_) he hpl hall hnone
  refine kws_cons (ld_blt I1 hg2 hm2 boot_len (kws_nil ?_))
  rw [hks]
  obtain ⟨l, ps, n, rfl, hl, h0, hlen, q⟩ := q1
  obtain rfl := Vals.ref1 r1
  obtain ⟨its, rv, pl, hz⟩ := I1.list hl
  have hil : its.length = ps.length := by rw [← rv.length, List.length_map]
  show wpAny _ _ (call (.builtin "min") [.ref l] [(Str.ofString "key", .builtin "len")]) _ _ s1
  have item : ∀ (i : Nat) (v : Value), its[i]? = some v → ∃ p : Addr, ps[i]? = some p ∧ v = Value.ref p := by
    intro i v hv
    obtain ⟨x, hx, rx⟩ := L2.DX.pget rv hv
    rw [List.getElem?_map] at hx
    cases hp : ps[i]? with
    | none => rw [hp] at hx; cases hx
    | some p =>
      rw [hp] at hx
      cases hx
      exact ⟨p, rfl, rx⟩
  refine call_min_walkKB (q := "len") (wpAny_pyIter_list pl.isList ⟨s1.heap.objs.size, _, _, _, its.toArray.size, _, _,
    (fun s' => (∀ b o, s1.heap.get? b = some o → s'.heap.get? b = some o) ∧ ∃ h t, s' = { s1 with heap := h, toks := t }),
    (fun i k s' => ∃ t, k = .int (n i) t), (fun i j => decide ((n i : Int) < n j)), rfl,
    (Walks.list (prog := X.prog) (w := X.w) (A := X.A.in1) (I1.ok.hd hc) s1.heap.objs.size l (Nat.ne_of_lt (Heap.lt_size pl.isList.choose_spec.1)) its.toArray).toS, ?_, ?_, by rw [List.size_toArray]; omega, ?_, ?_, ?_⟩)
  · exact ⟨⟨_, Heap.get?_push_size _ rfl, rfl, rfl⟩, pl.isList.push _⟩
  · intro b hb
    rw [size_push']
    simp only [List.mem_cons, List.not_mem_nil, or_false] at hb
    rcases hb with rfl | rfl
    · exact Nat.lt_succ_self _
    · exact Nat.lt_succ_of_lt (Heap.lt_size pl.isList.choose_spec.1)
  · have old : ∀ b, b < s1.heap.objs.size → ∀ o, o ∈ [(s1.heap.push { cls := .type "list_iterator", data := .fields #[.ref l, .int 0 0] }).objs.size, s1.heap.objs.size] → b ≠ o := by
      intro b hb o ho e
      subst e
      simp only [List.mem_cons, List.not_mem_nil, or_false, size_push'] at ho
      rcases ho with ho | ho <;> omega
    refine ⟨?_, ?_, ?_, ?_⟩
    · rintro s' s'' ⟨k, h, t, rfl⟩ m
      refine ⟨fun b o e => m.heap b o (fun q => old b (Heap.lt_size e) b q rfl) (k b o e), s''.heap, s''.toks, ?_⟩
      obtain ⟨m1, m2, m3, m4, m5⟩ := m
      cases s''
      simp only at m2 m3 m4
      subst m2 m3 m4
      rfl
    · intro i k s' s'' h _
      exact h
    · rintro i v s' o Q' E' hi hv ⟨k, h, t, rfl⟩ st hS fin
      obtain ⟨p, hp, rfl⟩ := item i v (by simpa using hv)
      obtain ⟨ys, hy, hn⟩ := hlen i p hp
      obtain ⟨jts, rj, pj, hzj⟩ := I1.list hy
      have lj : jts.toArray.size = n i := by rw [List.size_toArray, ← rj.length, hn]
      have pj' : h.IsList p jts.toArray := Heap.IsList.at pj.isList fun o e => k p o e
      refine len_list pj' (by rw [lj, ← hn]; have : sizeLine = 2 ^ 24 := rfl; omega) ?_
      refine fin _ _ ⟨k, _, _, rfl⟩ st hS ⟨_, by rw [lj]⟩ fun _ _ x => x
    · intro i j ki kj s' Q' E' _ hi hj h
      exact CmpOf.ints_lt (P := fun i v => ∃ t, v = Value.int (n i) t) (fun i => (n i : Int)) (fun i v h => h) i j _ _ _ _ _ hi hj h
  · exact ⟨fun b o e => Heap.get?_push_of_some _ e, _, _, rfl⟩
  · rintro v s' hv ⟨k, h, t, rfl⟩
    have bl := fun i hi => (best_len n (its.toArray.size - 1) i hi).1
    have bk := (best_len n (its.toArray.size - 1) 0 (Nat.zero_le _)).2
    obtain ⟨p, hp, rfl⟩ := item _ v ((List.getElem?_toArray ..).symm.trans hv)
    exact ⟨.ref p, H1, I1.kept (t' := t) k, rfl, q _ p hp fun j hj => bl j (by rw [List.size_toArray]; omega)⟩
end
end La
set_option Elab.async false
set_option linter.all false
set_option maxRecDepth 100000
set_option maxHeartbeats 4000000
/-! What a reading gives, told by a predicate of the value and the heap; pure defs -/
namespace La
open PySem PySem.Spec PyProof.Rows L2 Evl
abbrev VP := V → Hp → Prop
/-- what stays true when the heap grows -/
class Stb (P : VP) : Prop where
  ex : ∀ {v : V} {H H' : Hp}, Ex H H' → P v H → P v H'
/-- from the known H within the whole F to the known H' within the whole F': what is known and new was nowhere before -/
structure Ext (H F H' F' : Hp) : Prop where
  f : Ex F F'
  k : Ex H H'
  s : Ex H' F'
  n : ∀ a o, H' a = some o → H a = some o ∨ F a = none
theorem Ext.trans {H F H' F' H2 F2 : Hp} (x : Ext H F H' F') (y : Ext H' F' H2 F2) : Ext H F H2 F2 := by
  refine ⟨x.f.trans y.f, x.k.trans y.k, y.s, fun a o e => ?_⟩
  rcases y.n a o e with h | h
  · exact x.n a o h
  · exact .inr (fresh_back x.f h)
theorem Ext.refl {H F : Hp} (e : Ex H F) : Ext H F H F := ⟨Ex.refl F, Ex.refl H, e, fun _ _ h => .inl h⟩
/-- the whole grows, the known does not -/
theorem Ext.same {H F F' : Hp} (e : Ex H F) (f : Ex F F') : Ext H F H F' := ⟨f, Ex.refl H, e.trans f, fun _ _ h => .inl h⟩
/-- a new object is known -/
theorem Ext.new {H F F' : Hp} {p : Addr} {o : HO} (e : Ex H F) (hp : F p = none) (f : Ex F F') (h : F' p = some o) : Ext H F (upd H p o) F' := by
  have hH : H p = none := fresh_back e hp
  refine ⟨f, Ex.new hH, fun a u ha => ?_, fun a u ha => ?_⟩
  · by_cases q : a = p
    · subst q
      rw [upd_same] at ha
      rw [h, ha]
    · rw [upd_ne q] at ha
      exact f a u (e a u ha)
  · by_cases q : a = p
    · subst q
      exact .inr hp
    · rw [upd_ne q] at ha
      exact .inl ha
/-- what is not known may change -/
theorem Ext.mut {H F H' F' : Hp} {p : Addr} {o : HO} (x : Ext H F H' F') (h : F p = none) (h' : H' p = none) : Ext H F H' (upd F' p o) := by
  refine ⟨fun a u ha => ?_, x.k, fun a u ha => ?_, x.n⟩
  · rw [upd_ne (ne_of_none ha h)]
    exact x.f a u ha
  · rw [upd_ne (ne_of_none ha h')]
    exact x.s a u ha
/-- what was there and not known stays unknown -/
theorem Ext.out {H F H' F' : Hp} {p : Addr} {o : HO} (x : Ext H F H' F') (h : F p = some o) (h' : H p = none) : H' p = none := by
  cases e : H' p with
  | none => rfl
  | some u =>
    rcases x.n p u e with q | q
    · rw [h'] at q
      cases q
    · rw [h] at q
      cases q
def Gv (te : TE) (σ : L2.St) (H : Hp) (P : VP) : Prop := ∀ F, Ex H F → ∀ Q : VK, (∀ v H' F', Ext H F H' F' → P v H' → Q v F') → te σ F Q
def AllP : List VP → List V → Hp → Prop
  | [], [], _ => True
  | P :: Ps, v :: vs, H => P v H ∧ AllP Ps vs H
  | _, _, _ => False
theorem allP_len : ∀ {Ps : List VP} {vs : List V} {H : Hp}, AllP Ps vs H → vs.length = Ps.length
  | [], [], _, _ => rfl
  | [], _ :: _, _, h => h.elim
  | _ :: _, [], _, h => h.elim
  | _ :: Ps, _ :: vs, _, h => congrArg (· + 1) (allP_len (Ps := Ps) h.2)
def GvA (ta : TA) (σ : L2.St) (H : Hp) (Ps : List VP) : Prop := ∀ F, Ex H F → ∀ Q : List V → Hp → Prop, (∀ vs H' F', Ext H F H' F' → AllP Ps vs H' → Q vs F') → ta σ F Q
/-! values -/
abbrev nv (n : Nat) : V := V.int (n : Int)
def isV (x : V) : VP := fun v _ => v = x
abbrev isN (n : Nat) : VP := isV (nv n)
abbrev isI (i : Int) : VP := isV (.int i)
abbrev isB (b : Bool) : VP := isV (.bl b)
/-- a list at an address that is tracked, its items by R -/
def Lst {α : Type} (R : α → VP) (xs : List α) : VP := fun v H => ∃ a vs, v = .ref a ∧ H a = some (.lst vs) ∧ Paired (fun x u => R x u H) xs vs
abbrev NL (l : List Nat) : VP := fun v H => ∃ a, v = .ref a ∧ H a = some (.lst (l.map nv))
abbrev IL (l : List Int) : VP := fun v H => ∃ a, v = .ref a ∧ H a = some (.lst (l.map V.int))
abbrev BL (l : List Bool) : VP := fun v H => ∃ a, v = .ref a ∧ H a = some (.lst (l.map V.bl))
abbrev NLL (ls : List (List Nat)) : VP := Lst NL ls
/-- a pair of lamps and what they light -/
def PR (p : List Nat × Nat) : VP := fun v H => ∃ t b, v = .ref t ∧ H t = some (.tup [.ref b, nv p.2]) ∧ H b = some (.lst (p.1.map nv))
instance {x : V} : Stb (isV x) := ⟨fun _ h => h⟩
instance {l : List Nat} : Stb (NL l) := ⟨fun e ⟨a, h1, h2⟩ => ⟨a, h1, e a _ h2⟩⟩
instance {l : List Int} : Stb (IL l) := ⟨fun e ⟨a, h1, h2⟩ => ⟨a, h1, e a _ h2⟩⟩
instance {l : List Bool} : Stb (BL l) := ⟨fun e ⟨a, h1, h2⟩ => ⟨a, h1, e a _ h2⟩⟩
instance {p : List Nat × Nat} : Stb (PR p) := ⟨fun e ⟨t, b, h1, h2, h3⟩ => ⟨t, b, h1, e t _ h2, e b _ h3⟩⟩
theorem paired_ex {α : Type} {R : α → VP} [h : ∀ x, Stb (R x)] {H H' : Hp} (e : Ex H H') : ∀ {xs : List α} {vs : List V}, Paired (fun x u => R x u H) xs vs → Paired (fun x u => R x u H') xs vs
  | _, _, .nil => .nil
  | _, _, .cons f t => .cons ((h _).ex e f) (paired_ex e t)
instance {α : Type} {R : α → VP} [∀ x, Stb (R x)] {xs : List α} : Stb (Lst R xs) := ⟨fun e ⟨a, vs, h1, h2, h3⟩ => ⟨a, vs, h1, e a _ h2, paired_ex e h3⟩⟩
theorem pr_len {α β : Type} {F : α → β → Prop} : ∀ {l₁ : List α} {l₂ : List β}, Paired F l₁ l₂ → l₁.length = l₂.length
  | _, _, .nil => rfl
  | _, _, .cons _ t => congrArg (· + 1) (pr_len t)
theorem pr_at {α β : Type} {F : α → β → Prop} : ∀ {l₁ : List α} {l₂ : List β} {j : Nat} {x : β}, Paired F l₁ l₂ → l₂[j]? = some x → ∃ y, l₁[j]? = some y ∧ F y x
  | _, _, j, x, .nil, h => by simp at h
  | _, _, 0, x, .cons (a := y) f _, h => ⟨y, rfl, by cases h; exact f⟩
  | _, _, j + 1, x, .cons _ t, h => by
    obtain ⟨y, h1, h2⟩ := pr_at (j := j) t (by simpa using h)
    exact ⟨y, by simpa using h1, h2⟩
theorem pr_get {α β : Type} {F : α → β → Prop} : ∀ {l₁ : List α} {l₂ : List β} {j : Nat} {y : α}, Paired F l₁ l₂ → l₁[j]? = some y → ∃ x, l₂[j]? = some x ∧ F y x
  | _, _, j, x, .nil, h => by simp at h
  | _, _, 0, x, .cons (b := y) f _, h => ⟨y, rfl, by cases h; exact f⟩
  | _, _, j + 1, x, .cons _ t, h => by
    obtain ⟨y, h1, h2⟩ := pr_get (j := j) t (by simpa using h)
    exact ⟨y, by simpa using h1, h2⟩
theorem pr_snoc {α β : Type} {F : α → β → Prop} {x : α} {y : β} (hf : F x y) : ∀ {l₁ : List α} {l₂ : List β}, Paired F l₁ l₂ → Paired F (l₁ ++ [x]) (l₂ ++ [y])
  | _, _, .nil => .cons hf .nil
  | _, _, .cons f t => .cons f (pr_snoc hf t)
theorem pr_map {α : Type} {f : α → V} : ∀ {l : List α} {vs : List V}, Paired (fun x u => u = f x) l vs ↔ vs = l.map f
  | [], [] => ⟨fun _ => rfl, fun _ => .nil⟩
  | [], _ :: _ => ⟨fun h => (nomatch h), fun h => by simp at h⟩
  | _ :: _, [] => ⟨fun h => (nomatch h), fun h => by simp at h⟩
  | x :: l, v :: vs => ⟨fun h => by cases h with | cons f t => rw [f, List.map_cons, pr_map.mp t], fun h => by
      rw [List.map_cons] at h
      obtain ⟨h1, h2⟩ := List.cons.inj h
      exact .cons h1 (pr_map.mpr h2)⟩
theorem lst_map {α : Type} {f : α → V} {l : List α} {v : V} {H : Hp} : Lst (fun x => isV (f x)) l v H ↔ ∃ a, v = .ref a ∧ H a = some (.lst (l.map f)) :=
  ⟨fun ⟨a, vs, h1, h2, h3⟩ => ⟨a, h1, by rw [h2, pr_map.mp h3]⟩, fun ⟨a, h1, h2⟩ => ⟨a, _, h1, h2, pr_map.mpr rfl⟩⟩
theorem nl_lst {l : List Nat} {v : V} {H : Hp} : NL l v H ↔ Lst isN l v H := lst_map.symm
section
variable {σ : L2.St} {H : Hp} {te ta tb : TE} {tt : TT} {P : VP}
theorem Gv.imp {P' : VP} (h : Gv te σ H P) (k : ∀ v H1, Ex H H1 → P v H1 → P' v H1) : Gv te σ H P' := fun F e Q q => h F e Q fun v H' F' x p => q v H' F' x (k v H' x.k p)
theorem gv_ev {v : V} (h : Ev te σ H v) (p : P v H) : Gv te σ H P := fun F e Q q => h F e Q fun F' e2 => q v H F' (Ext.same e e2) p
theorem gv_is {v : V} (h : Ev te σ H v) : Gv te σ H (isV v) := gv_ev h rfl
theorem ev_gv {v : V} (h : Gv te σ H (isV v)) : Ev te σ H v := fun F e Q q => h F e Q fun u H' F' x p => by
  cases (show u = v from p)
  exact q F' x.f
theorem gv_var {i : Nat} {v : V} (h : σ[i]? = some (some v)) (p : P v H) : Gv (tVar i) σ H P := fun F e Q q => ⟨v, h, q v H F (Ext.refl e) p⟩
theorem gv_c {v : V} : Gv (tC v) σ H (isV v) := gv_is ev_c
theorem gv_l {xs : List V} (h : EvL te σ H xs) (p : ∀ a H1, Ex H H1 → H1 a = some (.lst xs) → P (.ref a) H1) : Gv te σ H P := fun F e Q q => h F e Q fun a F' ha e2 h2 =>
  q _ (upd H a (.lst xs)) F' (Ext.new e ha e2 h2) (p a _ (Ex.new (fresh_back e ha)) upd_same)
/-- a known known in more -/
theorem Gv.up {H' : Hp} (h : Gv te σ H P) [s : Stb P] (e : Ex H H') : Gv te σ H' P := fun F f Q q => h F (e.trans f) Q fun v H1 F1 x p => by
  -- the new part joins H'
  refine q v (fun a => match H' a with | some o => some o | none => H1 a) F1 ⟨x.f, fun a o ha => by simp only [ha], fun a o ha => ?_, fun a o ha => ?_⟩ (s.ex (fun a o ha => ?_) p)
  · cases hh : H' a with
    | some u =>
      simp only [hh] at ha
      rw [← ha]
      exact x.f a u (f a u hh)
    | none =>
      simp only [hh] at ha
      exact x.s a o ha
  · cases hh : H' a with
    | some u =>
      simp only [hh] at ha
      exact .inl ha
    | none =>
      simp only [hh] at ha
      rcases x.n a o ha with q1 | q1
      · rw [e a o q1] at hh
        cases hh
      · exact .inr q1
  · show (match H' a with | some o => some o | none => H1 a) = some o
    cases hh : H' a with
    | some u =>
      rcases x.n a o ha with q1 | q1
      · rw [← hh, e a o q1]
      · rw [f a u hh] at q1
        cases q1
    | none => exact ha
theorem ga_nil : GvA tNil σ H [] := fun F e _ q => q [] H F (Ext.refl e) trivial
theorem ga_cons [s : Stb P] {tr : TA} {Ps : List VP} (h : Gv te σ H P) (hr : ∀ H1, Ex H H1 → GvA tr σ H1 Ps) : GvA (tCons te tr) σ H (P :: Ps) := fun F e Q q =>
  h F e _ fun v H1 F1 x hp => hr H1 x.k F1 x.s _ fun vs H2 F2 y hps => q (v :: vs) H2 F2 (x.trans y) ⟨s.ex y.k hp, hps⟩
theorem ga_one [s : Stb P] (h : Gv te σ H P) : GvA (tCons te tNil) σ H [P] := ga_cons h fun _ _ => ga_nil
/-! ### pure defs -/
def SpF {α : Type} (C : α → Prop) (Ps : α → List VP) (B : α → VP) : Sp := fun vs F Q _ => ∃ a H, C a ∧ Ex H F ∧ AllP (Ps a) vs H ∧ ∀ v H' F', Ext H F H' F' → B a v H' → Q v F'
theorem gv_call {α : Type} {C : α → Prop} {Ps : α → List VP} {B : α → VP} {E : XK} {ta : TA} (a : α) (hc : C a) (h : GvA ta σ H (Ps a)) : Gv (tCall (SpF C Ps B) [] E ta) σ H (B a) := fun F e Q q =>
  h F e _ fun vs H1 F1 x hp => ⟨a, H1, hc, x.s, by rw [List.append_nil]; exact hp, fun v H2 F2 y hb => q v H2 F2 (x.trans y) hb⟩
theorem gv_meth {α : Type} {C : α → Prop} {Ps : α → List VP} {B : α → VP} {E : XK} {ta : TA} {Cl : Addr} {m : Str} {P0 : VP} {Ps' : List VP} [s : Stb P0] (a : α) (hc : C a) (hP : Ps a = P0 :: Ps')
    (hI : ∀ v H1, P0 v H1 → ∃ p dx fs, v = .ref p ∧ H1 p = some (.ins Cl dx fs) ∧ fs.lookup m = none) (ho : Gv te σ H P0) (h : ∀ H1, Ex H H1 → GvA ta σ H1 Ps') : Gv (tMeth Cl m (SpF C Ps B) [] E te ta) σ H (B a) := fun F e Q q =>
  ho F e _ fun x H1 F1 y hx => by
    obtain ⟨p, dx, fs, rfl, h1, h2⟩ := hI x H1 hx
    refine ⟨p, dx, fs, rfl, y.s p _ h1, h2, h H1 y.k F1 y.s _ fun vs H2 F2 z hp => ⟨a, H2, hc, z.s, ?_, fun v H3 F3 u hb => q v H3 F3 ((y.trans z).trans u) hb⟩⟩
    rw [List.append_nil, hP]
    exact ⟨s.ex z.k hx, hp⟩
/-! ### operators -/
theorem gv_op {r : R2} {x y z : V} (ha : Gv ta σ H (isV x)) (hb : Gv tb σ H (isV y)) (hr : RV r x y H z) : Gv (tOp r ta tb) σ H (isV z) := gv_is (ev_op (ev_gv ha) (ev_gv hb) hr)
theorem gv_I0 {g : Int → Int → V} {i j : Int} (ha : Gv ta σ H (isI i)) (hb : Gv tb σ H (isI j)) : Gv (tOp (rI0 g) ta tb) σ H (isV (g i j)) := gv_op ha hb rv_I0
theorem gv_I {C : Int → Int → Prop} {g : Int → Int → V} {i j : Int} (ha : Gv ta σ H (isI i)) (hb : Gv tb σ H (isI j)) (hc : C i j) : Gv (tOp (rI C g) ta tb) σ H (isV (g i j)) := gv_op ha hb (rv_I hc)
theorem et_gv {b : Bool} (h : Gv te σ H (isB b)) : EvT (tTest te) σ H b := et_test (ev_gv h)
theorem et_gvB {b : Bool} (h : Gv te σ H (isB b)) : EvT (tB te) σ H b := et_B (ev_gv h)
theorem flat_nv (l : List Nat) : (l.map nv).all flatV = true := by
  rw [List.all_eq_true]
  intro x hx
  obtain ⟨n, _, rfl⟩ := List.mem_map.mp hx
  rfl
theorem inV_nv (n : Nat) : ∀ l : List Nat, inV (nv n) (l.map nv) = decide (n ∈ l)
  | [] => rfl
  | m :: l => by
    have ih := inV_nv n l
    have e : inV (nv n) ((m :: l).map nv) = (((m : Int) == (n : Int)) || inV (nv n) (l.map nv)) := rfl
    rw [e, ih]
    by_cases h : n = m
    · subst h
      simp
    · have : ((m : Int) == (n : Int)) = false := beq_eq_false_iff_ne.mpr (by omega)
      rw [this, Bool.false_or]
      simp [h]

variable {K : PySem.W.Frag}
/-- n in a list of numbers -/
theorem gv_in {n : Nat} {l : List Nat} (ha : Gv ta σ H (isN n)) (hb : ∀ H1, Ex H H1 → Gv tb σ H1 (NL l)) : Gv (tOp (rIn K false) ta tb) σ H (isB (decide (n ∈ l))) := fun F e Q q =>
  ha F e _ fun x H1 F1 y hx => hb H1 y.k F1 y.s _ fun u H2 F2 z ⟨a, hu, hl⟩ => by
    cases (show x = nv n from hx)
    refine ⟨a, _, hu, .inl (sq_of (z.s a _ hl)), rfl, flat_nv l, ?_⟩
    have e1 := inV_nv n l
    show Q (.bl (if false = true then !inV (nv n) (l.map nv) else inV (nv n) (l.map nv))) F2
    rw [if_neg Bool.false_ne_true, e1]
    exact q _ H2 F2 (y.trans z) rfl
theorem lst_len {α : Type} {R : α → VP} {xs : List α} {v : V} {H : Hp} (h : Lst R xs v H) : ∃ a vs, v = .ref a ∧ H a = some (.lst vs) ∧ vs.length = xs.length := by
  obtain ⟨a, vs, h1, h2, h3⟩ := h
  exact ⟨a, vs, h1, h2, (pr_len h3).symm⟩
theorem gv_lenL {α : Type} {R : α → VP} {xs : List α} (h : Gv te σ H (Lst R xs)) : Gv (tCB (rLenS K) (tCons te tNil)) σ H (isN xs.length) := fun F e Q q =>
  h F e _ fun v H1 F1 x hv => by
    obtain ⟨a, vs, rfl, h2, h3⟩ := lst_len hv
    refine ⟨a, vs, rfl, .inl (sq_of (x.s a _ h2)), ?_⟩
    exact q _ H1 F1 x (by rw [h3]; rfl)
theorem gv_lenN {l : List Nat} (h : Gv te σ H (NL l)) : Gv (tCB (rLenS K) (tCons te tNil)) σ H (isN l.length) := gv_lenL (h.imp fun _ _ _ => nl_lst.mp)
theorem gv_any {bs : List Bool} (h : Gv te σ H (BL bs)) : Gv (tCB (rAny K) (tCons te tNil)) σ H (isB (bs.any id)) := fun F e Q q =>
  h F e _ fun v H1 F1 x ⟨a, hv, h2⟩ => ⟨a, bs, by rw [hv], sq_of (x.s a _ h2), q _ H1 F1 x rfl⟩
theorem gv_all {bs : List Bool} (h : Gv te σ H (BL bs)) : Gv (tCB (rAll K) (tCons te tNil)) σ H (isB (bs.all id)) := fun F e Q q =>
  h F e _ fun v H1 F1 x ⟨a, hv, h2⟩ => ⟨a, bs, by rw [hv], sq_of (x.s a _ h2), q _ H1 F1 x rfl⟩
theorem gv_sum {l : List Int} (h : Gv te σ H (IL l)) : Gv (tCB (rSum K) (tCons te tNil)) σ H (isI l.sum) := fun F e Q q =>
  h F e _ fun v H1 F1 x ⟨a, hv, h2⟩ => ⟨a, l, by rw [hv], sq_of (x.s a _ h2), q _ H1 F1 x rfl⟩
/-! ### comprehensions -/
theorem take_snoc {α : Type} {l : List α} {i : Nat} {x : α} (h : l[i]? = some x) : l.take (i + 1) = l.take i ++ [x] := by
  rw [List.take_add_one, h]
  rfl
/-- known objects and the new list at D -/
structure Cv {α β : Type} (R : β → VP) (f : α → Bool) (g : α → β) (xs : List α) (H F : Hp) (D : Addr) (i : Nat) (F' : Hp) : Prop where
  ex : ∃ Hk acc, Ext H F Hk F' ∧ Hk D = none ∧ F' D = some (.lst acc) ∧ Paired (fun x u => R x u Hk) (((xs.take i).filter f).map g) acc
theorem Cv.start {α β : Type} {R : β → VP} {f : α → Bool} {g : α → β} {xs : List α} {D : Addr} {F : Hp} (e : Ex H F) (hD : F D = none) : Cv R f g xs H F D 0 (upd F D (.lst [])) :=
  ⟨H, [], Ext.same e (Ex.new hD), fresh_back e hD, upd_same, by rw [List.take_zero]; exact .nil⟩
theorem Cv.fin {α β : Type} {R : β → VP} [s : ∀ y, Stb (R y)] {f : α → Bool} {g : α → β} {xs : List α} {D : Addr} {F F' : Hp} {i : Nat} (hD : F D = none) (c : Cv R f g xs H F D i F') (hi : xs.length ≤ i) :
    ∃ H', Ext H F H' F' ∧ Lst R ((xs.filter f).map g) (.ref D) H' := by
  obtain ⟨Hk, acc, x, h1, h2, h3⟩ := c
  rw [List.take_of_length_le hi] at h3
  refine ⟨upd Hk D (.lst acc), ⟨x.f, x.k.trans (Ex.new h1), fun a o ha => ?_, fun a o ha => ?_⟩, D, acc, rfl, upd_same, paired_ex (Ex.new h1) h3⟩
  · by_cases q : a = D
    · subst q
      rw [upd_same] at ha
      rw [h2, ha]
    · rw [upd_ne q] at ha
      exact x.s a o ha
  · by_cases q : a = D
    · subst q
      exact .inr hD
    · rw [upd_ne q] at ha
      exact x.n a o ha
theorem Cv.turn {α β : Type} {R : β → VP} [s : ∀ y, Stb (R y)] {f : α → Bool} {g : α → β} {xs : List α} {D : Addr} {F F' : Hp} {i : Nat} {y : α} {σ2 : L2.St} (hD : F D = none) (hz : xs.length ≤ 100000) (hy : xs[i]? = some y) (c : Cv R f g xs H F D i F')
    (ht : ∀ H1, Ex H H1 → EvT tt σ2 H1 (f y)) (he : ∀ H1, Ex H H1 → f y = true → Gv te σ2 H1 (R (g y))) :
    tt σ2 F' fun b F3 => if b = true then te σ2 F3 fun y F4 => ∃ acc, F4 D = some (.lst acc) ∧ acc.length < sizeLine ∧ Cv R f g xs H F D (i + 1) (upd F4 D (.lst (acc ++ [y]))) else Cv R f g xs H F D (i + 1) F3 := by
  obtain ⟨Hk, acc, x, h1, h2, h3⟩ := c
  have hl : acc.length ≤ i := by
    rw [← pr_len h3, List.length_map]
    refine Nat.le_trans (List.length_filter_le _ _) ?_
    rw [List.length_take]
    exact Nat.min_le_left _ _
  have hi := (List.getElem?_eq_some_iff.mp hy).1
  refine ht Hk x.k F' x.s _ fun F3 e3 => ?_
  cases hf : f y with
  | true =>
    rw [if_pos rfl]
    refine he Hk x.k hf F3 (x.s.trans e3) _ fun v H4 F4 z hv => ⟨acc, z.f D _ (e3 D _ h2), sz_lt (by omega), H4, acc ++ [v], ?_, ?_, upd_same, ?_⟩
    · have z1 := z.out (e3 D _ h2) h1
      exact ((x.trans (Ext.same x.s e3)).trans z).mut hD z1
    · exact z.out (e3 D _ h2) h1
    · rw [take_snoc hy, List.filter_append, List.map_append, List.filter_cons, if_pos hf]
      exact pr_snoc (F := fun x u => R x u H4) hv (paired_ex z.k h3)
  | false =>
    rw [if_neg Bool.false_ne_true]
    refine ⟨Hk, acc, x.trans (Ext.same x.s e3), h1, e3 D _ h2, ?_⟩
    rw [take_snoc hy, List.filter_append, List.filter_cons, if_neg (by rw [hf]; decide), List.filter_nil, List.append_nil]
    exact h3
/-- over a list; Tg: the slots that the target makes of an item -/
theorem gv_lcG {α β : Type} {S : α → VP} {R : β → VP} [∀ x, Stb (S x)] [∀ y, Stb (R y)] {tl : TE} {G : TG} {vs : List Nat} (f : α → Bool) (g : α → β) {xs : List α} (Tg : α → Hp → L2.St → Prop) (h : Gv tl σ H (Lst S xs)) (hz : xs.length ≤ 100000)
    (hg : ∀ y x Hk F, S y x Hk → Ex Hk F → ∀ Q, (∀ σ2, wipe σ2 vs = wipe σ vs → Tg y Hk σ2 → Q σ2 F) → G x (wipe σ vs) F Q)
    (ht : ∀ y σ2 H0 H1, y ∈ xs → Ex H H0 → Ex H0 H1 → Tg y H0 σ2 → EvT tt σ2 H1 (f y)) (he : ∀ y σ2 H0 H1, y ∈ xs → f y = true → Ex H H0 → Ex H0 H1 → Tg y H0 σ2 → Gv te σ2 H1 (R (g y))) :
    Gv (tLc (iList K tl) G tt te vs) σ H (Lst R ((xs.filter f).map g)) := fun F e Q q =>
  h F e _ fun v H1 F1 x hv => by
    obtain ⟨a, us, rfl, ha, hp⟩ := hv
    refine ⟨a, rfl, ⟨us, sq_of (x.s a _ ha)⟩, fun D hD => lc_list (xs := us) (Cv R f g xs H1 F1 D) (.start x.s hD) ?_ ?_ ?_⟩
    · rintro i F' _ ⟨Hk, acc, y, _⟩
      exact sq_of (y.f a _ (x.s a _ ha))
    · intro i u F' hu c
      obtain ⟨y, hy, hs⟩ := pr_at hp hu
      have hm : y ∈ xs := List.mem_of_getElem? hy
      have eF : Ex H1 F' := by
        obtain ⟨Hk, acc, z, _⟩ := c
        exact z.k.trans z.s
      refine hg y u H1 F' hs eF _ fun σ2 w2 t2 => ⟨w2, ?_⟩
      exact Cv.turn hD hz hy c (fun H2 e2 => ht y σ2 H1 H2 hm x.k e2 t2) (fun H2 e2 hf => he y σ2 H1 H2 hm hf x.k e2 t2)
    · intro F' c
      obtain ⟨H', z, hl⟩ := c.fin hD (by rw [pr_len hp]; exact Nat.le_refl _)
      exact q _ H' F' (x.trans z) hl
theorem gv_lc {α β : Type} {S : α → VP} {R : β → VP} [∀ x, Stb (S x)] [∀ y, Stb (R y)] {tl : TE} {j : Nat} {vs : List Nat} (f : α → Bool) (g : α → β) {xs : List α} (h : Gv tl σ H (Lst S xs)) (hz : xs.length ≤ 100000)
    (hw : ∀ x, wipe ((wipe σ vs).set j (some x)) vs = wipe σ vs)
    (ht : ∀ y x H1, y ∈ xs → Ex H H1 → S y x H1 → EvT tt ((wipe σ vs).set j (some x)) H1 (f y)) (he : ∀ y x H1, y ∈ xs → f y = true → Ex H H1 → S y x H1 → Gv te ((wipe σ vs).set j (some x)) H1 (R (g y))) :
    Gv (tLc (iList K tl) (gName j) tt te vs) σ H (Lst R ((xs.filter f).map g)) :=
  gv_lcG f g (fun y Hk σ2 => ∃ x, S y x Hk ∧ σ2 = (wipe σ vs).set j (some x)) h hz (fun y x Hk F hs _ Q q => q _ (hw x) ⟨x, hs, rfl⟩)
    (fun y σ2 H0 H1 hm e0 e1 ⟨x, hs, h2⟩ => by subst h2; exact ht y x H1 hm (e0.trans e1) (Stb.ex e1 hs)) (fun y σ2 H0 H1 hm hf e0 e1 ⟨x, hs, h2⟩ => by subst h2; exact he y x H1 hm hf (e0.trans e1) (Stb.ex e1 hs))
/-- what a turn of a comprehension asks: the value is told, and if the test is true it is put behind the list so far -/
def Turn (tt : TT) (te : TE) (σ2 : L2.St) (D : Addr) (Go : Hp → Prop) (Hc : Hp) : Prop := tt σ2 Hc fun c He => if c = true then te σ2 He fun u Hf => ∃ us, Hf D = some (.lst us) ∧ us.length < sizeLine ∧ Go (upd Hf D (.lst (us ++ [u]))) else Go He
/-- over a walk: the items are val 0 .. val (n - 1) -/
theorem lc_it {J : It} {n : Nat} {val : Nat → V} {g : TG} {tt : TT} {te : TE} {vs : List Nat} {σ : L2.St} {H1 : Hp} {D : Addr} {Qd : Hp → Prop} (hgo : ∀ i H, i < n → J.go i H) (hst : ∀ H, J.stop n H) (hy : ∀ i H x H', J.yld i H x H' → H' = H ∧ x = val i)
    (Pv : Nat → Hp → Prop) (h0 : Pv 0 (upd H1 D (.lst []))) (hs : ∀ i Ha, i < n → Pv i Ha → g (val i) (wipe σ vs) Ha fun σ2 Hb => wipe σ2 vs = wipe σ vs ∧ Turn tt te σ2 D (Pv (i + 1)) Hb) (hd : ∀ H, Pv n H → Qd H) :
    ∃ V : Nat → Nat → Hp → Prop, (∃ k, V 0 k (upd H1 D (.lst []))) ∧ ∀ i k Ha, V i k Ha →
      (J.stop i Ha ∧ Qd Ha) ∨ (J.go i Ha ∧ ∃ Next : Hp → Prop, (∀ Hz, Next Hz → ∃ k2, k2 < k ∧ V (i + 1) k2 Hz) ∧ ∀ x Hy, J.yld i Ha x Hy → g x (wipe σ vs) Hy fun σ2 Hb => wipe σ2 vs = wipe σ vs ∧ Turn tt te σ2 D Next Hb) := by
  refine ⟨fun i k Ha => k + i = n ∧ Pv i Ha, ⟨n, rfl, h0⟩, ?_⟩
  rintro i k Ha ⟨left, now⟩
  rcases Nat.lt_or_ge i n with more | no
  · refine .inr ⟨hgo i Ha more, Pv (i + 1), fun Hz z => ⟨k - 1, by omega, by omega, z⟩, fun x Hy y => ?_⟩
    obtain ⟨rfl, rfl⟩ := hy i Ha x Hy y
    exact hs i _ more now
  · obtain rfl : i = n := by omega
    exact .inl ⟨hst Ha, hd Ha now⟩
theorem gv_lcIt {β : Type} {R : β → VP} [∀ y, Stb (R y)] {wi : TI} {j : Nat} {vs : List Nat} {J : It} {n : Nat} {val : Nat → V} (f : Nat → Bool) (g : Nat → β) (hgo : ∀ i H, i < n → J.go i H) (hst : ∀ H, J.stop n H) (hy : ∀ i H x H', J.yld i H x H' → H' = H ∧ x = val i)
    (h : ∀ F, Ex H F → ∀ Q : It → Hp → Prop, (∀ F', Ex F F' → Q J F') → wi σ F Q) (hz : n ≤ 100000)
    (hw : ∀ x, wipe ((wipe σ vs).set j (some x)) vs = wipe σ vs)
    (ht : ∀ i H1, i < n → Ex H H1 → EvT tt ((wipe σ vs).set j (some (val i))) H1 (f i)) (he : ∀ i H1, i < n → f i = true → Ex H H1 → Gv te ((wipe σ vs).set j (some (val i))) H1 (R (g i))) :
    Gv (tLc wi (gName j) tt te vs) σ H (Lst R (((List.range n).filter f).map g)) := fun F e Q q =>
  h F e _ fun F1 e1 D hD => lc_it (n := n) hgo hst hy (Cv R f g (List.range n) H F1 D) (.start (e.trans e1) hD) (fun i F' hi c => by
      have hr : (List.range n)[i]? = some i := by
        rw [List.getElem?_range hi]
      exact ⟨hw _, Cv.turn hD (by rw [List.length_range]; exact hz) hr c (fun H2 e2 => ht i H2 hi e2) (fun H2 e2 hf => he i H2 hi hf e2)⟩)
    (fun F' c => by
      obtain ⟨H', z, hl⟩ := c.fin hD (by rw [List.length_range]; exact Nat.le_refl _)
      exact q _ H' F' ((Ext.same e e1).trans z) hl)
theorem gv_lcR1 {β : Type} {R : β → VP} [∀ y, Stb (R y)] {tr : TA} {j : Nat} {vs : List Nat} {n : Nat} (f : Nat → Bool) (g : Nat → β) (h : EvA tr σ H [nv n]) (hz : n ≤ 100000)
    (hw : ∀ x, wipe ((wipe σ vs).set j (some x)) vs = wipe σ vs)
    (ht : ∀ i H1, i < n → Ex H H1 → EvT tt ((wipe σ vs).set j (some (nv i))) H1 (f i)) (he : ∀ i H1, i < n → f i = true → Ex H H1 → Gv te ((wipe σ vs).set j (some (nv i))) H1 (R (g i))) :
    Gv (tLc (iRng1 tr) (gName j) tt te vs) σ H (Lst R (((List.range n).filter f).map g)) :=
  gv_lcIt (J := Itr 0 n) (val := nv) f g (fun _ _ h => h) (fun _ => Nat.le_refl _) (fun i H x H' y => ⟨y.1, by rw [y.2, Int.zero_add]⟩)
    (fun F e Q q => h F e _ fun F' e' => ⟨(n : Int), rfl, by omega, by omega, q F' e'⟩) hz hw ht he
theorem gv_lcR2 {β : Type} {R : β → VP} [∀ y, Stb (R y)] {tr : TA} {j : Nat} {vs : List Nat} {lo hi : Int} {n : Nat} (f : Nat → Bool) (g : Nat → β) (h : EvA tr σ H [.int lo, .int hi]) (hb : -(2 ^ 62) ≤ lo ∧ lo < 2 ^ 62 ∧ -(2 ^ 62) ≤ hi ∧ hi < 2 ^ 62) (hn : (hi - lo).toNat = n) (hz : n ≤ 100000)
    (hw : ∀ x, wipe ((wipe σ vs).set j (some x)) vs = wipe σ vs)
    (ht : ∀ i H1, i < n → Ex H H1 → EvT tt ((wipe σ vs).set j (some (.int (lo + (i : Int))))) H1 (f i)) (he : ∀ i H1, i < n → f i = true → Ex H H1 → Gv te ((wipe σ vs).set j (some (.int (lo + (i : Int))))) H1 (R (g i))) :
    Gv (tLc (iRng2 tr) (gName j) tt te vs) σ H (Lst R (((List.range n).filter f).map g)) :=
  gv_lcIt (J := Itr lo n) (val := fun i => .int (lo + (i : Int))) f g (fun _ _ h => h) (fun _ => Nat.le_refl _) (fun i H x H' y => y)
    (fun F e Q q => h F e _ fun F' e' => ⟨lo, hi, rfl, hb, by rw [hn]; exact q F' e'⟩) hz hw ht he
theorem gv_lcR3 {β : Type} {R : β → VP} [∀ y, Stb (R y)] {tr : TA} {j : Nat} {vs : List Nat} {lo hi : Int} {n : Nat} (f : Nat → Bool) (g : Nat → β) (h : EvA tr σ H [.int lo, .int hi, .int (-1)]) (hb : -(2 ^ 62) ≤ lo ∧ lo < 2 ^ 62 ∧ -(2 ^ 62) ≤ hi ∧ hi < 2 ^ 62) (hn : (lo - hi).toNat = n) (hz : n ≤ 100000)
    (hw : ∀ x, wipe ((wipe σ vs).set j (some x)) vs = wipe σ vs)
    (ht : ∀ i H1, i < n → Ex H H1 → EvT tt ((wipe σ vs).set j (some (.int (lo + (i : Int) * (-1))))) H1 (f i)) (he : ∀ i H1, i < n → f i = true → Ex H H1 → Gv te ((wipe σ vs).set j (some (.int (lo + (i : Int) * (-1))))) H1 (R (g i))) :
    Gv (tLc (iRng3 tr) (gName j) tt te vs) σ H (Lst R (((List.range n).filter f).map g)) :=
  gv_lcIt (J := Itc lo (-1) n) (val := fun i => .int (lo + (i : Int) * (-1))) f g (fun _ _ h => h) (fun _ => Nat.le_refl _) (fun i H x H' y => y)
    (fun F e Q q => h F e _ fun F' e' => ⟨lo, hi, -1, n, rfl, by rw [← hn]; exact RgC.neg hb.1 hb.2.1 hb.2.2.1 hb.2.2.2, q F' e'⟩) hz hw ht he
/-! ### statements: t D σ F from the known H -/
variable {D : Ends} {F : Hp} {tu tz tw : TS}
theorem g_asg {i : Nat} (e : Ex H F) (h : Gv te σ H P) (k : ∀ v H' F', Ext H F H' F' → P v H' → D.nx (σ.set i (some v)) F') : tAsg te (gName i) D σ F := h F e _ k
theorem g_ret (e : Ex H F) (h : Gv te σ H P) (k : ∀ v H' F', Ext H F H' F' → P v H' → D.rt v F') : tRet te D σ F := h F e _ k
theorem g_if {b : Bool} (e : Ex H F) (h : EvT tt σ H b) (h1 : b = true → ∀ F', Ex F F' → tu D σ F') (h2 : b = false → ∀ F', Ex F F' → tw D σ F') : tIfS tt tu tw D σ F := h F e _ fun F' x => by
  cases b with
  | true => exact h1 rfl F' x
  | false => exact h2 rfl F' x
theorem g_seqAsg {i : Nat} (e : Ex H F) (h : Gv te σ H P) (k : ∀ v H' F', Ext H F H' F' → P v H' → tz D (σ.set i (some v)) F') : tSeq (tAsg te (gName i)) tz D σ F := g_asg (D := { D with nx := tz D }) e h k
theorem g_seqIf {b : Bool} (e : Ex H F) (h : EvT tt σ H b) (h1 : b = true → ∀ F', Ex F F' → tu { D with nx := tz D } σ F') (h2 : b = false → ∀ F', Ex F F' → tz D σ F') : tSeq (tIfS tt tu tNext) tz D σ F := g_if (D := { D with nx := tz D }) e h h1 h2
/-- if t: return e -/
theorem g_ifRet {b : Bool} {tr : TE} (e : Ex H F) (h : EvT tt σ H b) (h1 : b = true → Gv tr σ H P) (k1 : b = true → ∀ v H' F', Ext H F H' F' → P v H' → D.rt v F') (h2 : b = false → ∀ F', Ext H F H F' → tz D σ F') : tSeq (tIfS tt (tRet tr) tNext) tz D σ F :=
  g_seqIf e h (fun hb F' x => g_ret (D := { D with nx := tz D }) (e.trans x) (h1 hb) fun v H' F2 y p => k1 hb v H' F2 ((Ext.same e x).trans y) p) fun hb F' x => h2 hb F' (Ext.same e x)
end
end La
set_option Elab.async false
set_option linter.all false
set_option maxRecDepth 100000
set_option maxHeartbeats 4000000
namespace La
open PySem PySem.Spec PyProof.Rows L2 Evl
def top (i : Nat) : Stmt := PySem.Challenge.pw_lampways_s01_answers.main.body.getD i (.Pass ⟨0, 0, 0, 0⟩)
/-- a def that the top names, and its promise -/
structure Has (P : Program) (w : World) (K : PySem.W.Frag) (mg : Str → Option Value) (base : Heap) (x : Str) (k : Nat) (ps : List Str) (sp : Sp) : Prop where
  h : ∃ f fd, mg x = some (.ref f) ∧ PySem.W.keepIn K (.ref f) = true ∧ Binds K fd ps [] ∧ FnOk P w K mg base CX0 k f fd ps sp
/-- a method of the class at C, and its promise -/
structure HasM (P : Program) (w : World) (K : PySem.W.Frag) (mg : Str → Option Value) (base : Heap) (C : Addr) (m : Str) (k : Nat) (ps : List Str) (sp : Sp) : Prop where
  h : ∃ f fd, Meth K C m f ∧ Binds K fd ps [] ∧ FnOk P w K mg base CX0 k f fd ps sp
section
variable {X : Cx} {k : Nat} {x m : Str} {ps : List Str} {sp : Sp} {C : Addr}
theorem pe_has {p pos : Pos} {e : Expr} {es : List Expr} {t : TA} (F : Has X.prog X.w X.K X.mg X.base x k ps sp) (hr : Room k X.A) (hg : Gl X x)
    (ha : PA X (e :: es) t) (hdb : (x == ("__debug__" : Str)) = false := by decide) (he : starEach (e :: es) X.env = (false, eval e X.env) :: starEach es X.env := by rfl) (hpl : (backTo pos (starEach es X.env)).any (·.1) = false := by rfl) :
    PE X (.Call (.Name x p) (e :: es) [] pos) (tCall sp [] E0 t) := by
  obtain ⟨f, fd, h1, h2, h3, h4⟩ := F.h
  exact pe_call h4 hr hg h1 h2 h3 .nil pass0 ha hdb he hpl
theorem pe_hasM {o e : Expr} {es : List Expr} {ta : TE} {t : TA} {pos apos : Pos} {pl : Sem Bool} (he : PE X o ta) (c : Cls X.K C) (F : HasM X.prog X.w X.K X.mg X.base C m k ps sp) (hr : Room k X.A) (ha : PA X (e :: es) t)
    (hst : starEach (e :: es) X.env = (false, eval e X.env) :: starEach es X.env := by rfl) (hpl : (backTo pos (starEach es X.env)).any (·.1) = false := by rfl)
    (ht : eval (.Call (.Attribute o m apos) (e :: es) [] pos) X.env = (do
      let w ← eval o X.env; standAt apos.atName
      let (g, one) ← holding [w] (getMethod w m pl); callWith pos g one (backTo pos (starEach (e :: es) X.env)) (backToKw pos (keywordEach [] X.env))) := by rfl) :
    PE X (.Call (.Attribute o m apos) (e :: es) [] pos) (tMeth C m sp [] E0 ta t) := by
  obtain ⟨f, fd, h1, h2, h3⟩ := F.h
  exact pe_meth he c h1 h3 hr h2 .nil pass0 ha hst hpl ht
theorem pe_hasM0 {o : Expr} {ta : TE} {pos apos : Pos} {pl : Sem Bool} (he : PE X o ta) (c : Cls X.K C) (F : HasM X.prog X.w X.K X.mg X.base C m k ps sp) (hr : Room k X.A)
    (ht : eval (.Call (.Attribute o m apos) [] [] pos) X.env = (do
      let w ← eval o X.env; standAt apos.atName
      let (g, one) ← holding [w] (getMethod w m pl); callWith pos g one (backTo pos (starEach [] X.env)) (backToKw pos (keywordEach [] X.env))) := by rfl) :
    PE X (.Call (.Attribute o m apos) [] [] pos) (tMeth C m sp [] E0 ta tNil) := by
  obtain ⟨f, fd, h1, h2, h3⟩ := F.h
  exact pe_meth0 he c h1 h3 hr h2 .nil pass0 ht
end
/-- what the top leaves as Python has it -/
structure Blt (mg : Str → Option Value) : Prop where
  len : mg "len" = none
  any : mg "any" = none
  all : mg "all" = none
  sum : mg "sum" = none
  min : mg "min" = none
  set : mg "set" = none
  sorted : mg "sorted" = none
  range : mg "range" = none
  divmod : mg "divmod" = none
section
variable {P : Program} {w : World} {K : PySem.W.Frag} {mg : Str → Option Value} {base : Heap}
theorem map_true {α β : Type} (g : α → β) (l : List α) : (l.filter (fun _ => true)).map g = l.map g := by rw [List.filter_eq_self.mpr (by simp)]
theorem et_yes {σ : L2.St} {H : Hp} : EvT tYes σ H true := fun H1 _ _ q => q H1 (Ex.refl H1)
section
variable {σ : L2.St} {H : Hp} {te ta tb tl ty td : TE} {tt : TT} {j : Nat} {vs : List Nat} {α : Type} {S : α → VP}
theorem gv_lcB [∀ x, Stb (S x)] (b : α → Bool) {xs : List α} (h : Gv tl σ H (Lst S xs)) (hz : xs.length ≤ 100000) (hw : ∀ x, wipe ((wipe σ vs).set j (some x)) vs = wipe σ vs)
    (he : ∀ y x H1, y ∈ xs → Ex H H1 → S y x H1 → Gv te ((wipe σ vs).set j (some x)) H1 (isB (b y))) : Gv (tLc (iList K tl) (gName j) tYes te vs) σ H (BL (xs.map b)) :=
  Gv.imp (gv_lc (R := isB) (fun _ => true) b h hz hw (fun _ _ _ _ _ _ => et_yes) (fun y x H1 hy _ => he y x H1 hy)) fun v H1 _ p => by
    rw [map_true] at p
    obtain ⟨a, us, h1, h2, h3⟩ := p
    have : us = (xs.map b).map V.bl := pr_map.mp h3
    exact ⟨a, h1, by rw [h2, this]⟩
theorem gv_lcI [∀ x, Stb (S x)] (b : α → Int) {xs : List α} (h : Gv tl σ H (Lst S xs)) (hz : xs.length ≤ 100000) (hw : ∀ x, wipe ((wipe σ vs).set j (some x)) vs = wipe σ vs)
    (he : ∀ y x H1, y ∈ xs → Ex H H1 → S y x H1 → Gv te ((wipe σ vs).set j (some x)) H1 (isI (b y))) : Gv (tLc (iList K tl) (gName j) tYes te vs) σ H (IL (xs.map b)) :=
  Gv.imp (gv_lc (R := isI) (fun _ => true) b h hz hw (fun _ _ _ _ _ _ => et_yes) (fun y x H1 hy _ => he y x H1 hy)) fun v H1 _ p => by
    rw [map_true] at p
    obtain ⟨a, us, h1, h2, h3⟩ := p
    have : us = (xs.map b).map V.int := pr_map.mp h3
    exact ⟨a, h1, by rw [h2, this]⟩
theorem lst_nl {l : List Nat} {v : V} (p : Lst isN l v H) : NL l v H := nl_lst.mpr p
theorem gv_nl {l : List Nat} (h : Gv te σ H (Lst isN l)) : Gv te σ H (NL l) := h.imp fun _ _ _ => lst_nl
theorem nl_gv {l : List Nat} (h : Gv te σ H (NL l)) : Gv te σ H (Lst isN l) := h.imp fun _ _ _ => nl_lst.mp
/-- the cells of a list that pass a test -/
theorem gv_lcF (f : Nat → Bool) {xs : List Nat} (h : Gv tl σ H (NL xs)) (hz : xs.length ≤ 100000) (hw : ∀ x, wipe ((wipe σ vs).set j (some x)) vs = wipe σ vs)
    (ht : ∀ y H1, y ∈ xs → Ex H H1 → EvT tt ((wipe σ vs).set j (some (nv y))) H1 (f y)) (hj : ∀ x, ((wipe σ vs).set j (some x))[j]? = some (some x)) : Gv (tLc (iList K tl) (gName j) tt (tVar j) vs) σ H (NL (xs.filter f)) := by
  have q := gv_lc (K := K) (tt := tt) (te := tVar j) (R := isN) f id (nl_gv h) hz hw (fun y x H1 hy e hs => by cases (show x = nv y from hs); exact ht y H1 hy e) (fun y x H1 hy hf e hs => by cases (show x = nv y from hs); exact gv_var (hj _) rfl)
  rw [List.map_id] at q
  exact gv_nl q
theorem gv_lcRF (f : Nat → Bool) {n : Nat} {tr : TA} (h : EvA tr σ H [nv n]) (hz : n ≤ 100000) (hw : ∀ x, wipe ((wipe σ vs).set j (some x)) vs = wipe σ vs)
    (ht : ∀ y H1, y < n → Ex H H1 → EvT tt ((wipe σ vs).set j (some (nv y))) H1 (f y)) (hj : ∀ x, ((wipe σ vs).set j (some x))[j]? = some (some x)) : Gv (tLc (iRng1 tr) (gName j) tt (tVar j) vs) σ H (NL ((List.range n).filter f)) := by
  have q := gv_lcR1 (tt := tt) (te := tVar j) (R := isN) f id h hz hw ht (fun i H1 hi hf e => gv_var (hj _) rfl)
  rw [List.map_id] at q
  exact gv_nl q
/-- a dict whose keys are the cells of P -/
def PD (P : Nat → Bool) : VP := fun v H => ∃ d kvs, v = .ref d ∧ H d = some (.dK kvs) ∧ ∀ n : Nat, (valV kvs (Sum.inl (n : Int))).isSome = P n
instance {P : Nat → Bool} : Stb (PD P) := ⟨fun e ⟨d, kvs, h1, h2, h3⟩ => ⟨d, kvs, h1, e d _ h2, h3⟩⟩
theorem gv_din {P : Nat → Bool} {n : Nat} (hy : Gv ty σ H (isN n)) (hd : ∀ H1, Ex H H1 → Gv td σ H1 (PD P)) : Gv (tDIn ty td) σ H (isB (P n)) := fun F e Q q =>
  hy F e _ fun y H1 F1 x p => hd H1 x.k F1 x.s _ fun u H2 F2 z ⟨d, kvs, h1, h2, h3⟩ => by
    cases (show y = nv n from p)
    refine ⟨d, _, h1, DGet.k (k := Sum.inl (n : Int)) (z.s d _ h2), ?_⟩
    rw [h3 n]
    exact q _ H2 F2 (x.trans z) rfl
theorem gv_dnotin {P : Nat → Bool} {n : Nat} (hy : Gv ty σ H (isN n)) (hd : ∀ H1, Ex H H1 → Gv td σ H1 (PD P)) : Gv (tDNotIn ty td) σ H (isB (!P n)) := fun F e Q q =>
  hy F e _ fun y H1 F1 x p => hd H1 x.k F1 x.s _ fun u H2 F2 z ⟨d, kvs, h1, h2, h3⟩ => by
    cases (show y = nv n from p)
    refine ⟨d, _, h1, DGet.k (k := Sum.inl (n : Int)) (z.s d _ h2), ?_⟩
    rw [h3 n]
    exact q _ H2 F2 (x.trans z) rfl
theorem allP1 {P1 : VP} {vs : List V} {H : Hp} (h : AllP [P1] vs H) : ∃ a, vs = [a] ∧ P1 a H := match vs, h with | [a], ⟨h1, _⟩ => ⟨a, rfl, h1⟩
theorem allP2 {P1 P2 : VP} {vs : List V} {H : Hp} (h : AllP [P1, P2] vs H) : ∃ a b, vs = [a, b] ∧ P1 a H ∧ P2 b H := match vs, h with | [a, b], ⟨h1, h2, _⟩ => ⟨a, b, rfl, h1, h2⟩
theorem allP3 {P1 P2 P3 : VP} {vs : List V} {H : Hp} (h : AllP [P1, P2, P3] vs H) : ∃ a b c, vs = [a, b, c] ∧ P1 a H ∧ P2 b H ∧ P3 c H := match vs, h with | [a, b, c], ⟨h1, h2, h3, _⟩ => ⟨a, b, c, rfl, h1, h2, h3⟩
theorem allP4 {P1 P2 P3 P4 : VP} {vs : List V} {H : Hp} (h : AllP [P1, P2, P3, P4] vs H) : ∃ a b c d, vs = [a, b, c, d] ∧ P1 a H ∧ P2 b H ∧ P3 c H ∧ P4 d H := match vs, h with | [a, b, c, d], ⟨h1, h2, h3, h4, _⟩ => ⟨a, b, c, d, rfl, h1, h2, h3, h4⟩
end
/-! ### in_all, in_none -/
abbrev spInAll : Sp := SpF (fun (a : Nat × List (List Nat)) => a.2.length ≤ 100000) (fun a => [isN a.1, NLL a.2]) (fun a => isB (a.2.all fun l => decide (a.1 ∈ l)))
theorem scInAll : FnScope ["cell", "ways", "lamps"] ["cell", "ways"] (defScope (top 32)) := ⟨rfl, rfl, rfl, by decide +kernel, rfl, by decide +kernel, by decide +kernel⟩
theorem ok_in_all {f : Addr} {fd : FuncData} (F : Fun K "in_all" "in_all" (top 32) f fd) (T : Blt mg) : FnOk P w K mg base CX0 1 f fd ["cell", "ways"] spInAll := by
  refine F.ok scInAll (fun vs H Q E h => ?_) (fun cdv A outer s H vs Q E hr h => ?_)
  · obtain ⟨a, H0, _, _, hp, _⟩ := h
    exact allP_len hp
  · obtain ⟨⟨n, ws⟩, H0, hz, e, hp, k⟩ := h
    obtain ⟨v, u, rfl, h1, h2⟩ := allP2 hp
    refine ⟨_, pss_one (ps_ret (pe_callB (cr_all rfl) (by rfl) T.all boot_all (pa_cons (pe_lc (own := [("lamps", 2)]) (g := gName 2) (tt := tYes) (te := tOp (rIn K false) (tVar 0) (tVar 2)) rfl scInAll.nd (pi_list (pv 1)) (blkOk_by (N := ["cell", "ways", "lamps"]) (sc := defScope (top 32)) (by decide +kernel))
      (fun _ _ _ _ _ => pg_name (i := 2) scInAll.nd rfl (Or.inl rfl)) (fun _ _ _ _ _ => pts_nil) (fun _ _ _ _ _ => pe_cmpR op_in_seq (pv 0) (pv 2) (by rfl))) pa_nil))), ?_⟩
    refine g_ret e (P := isB (ws.all fun l => decide (n ∈ l))) ?_ fun v H' F' x p => k v H' F' x p
    refine Gv.imp (gv_all (gv_lcB (fun l => decide (n ∈ l)) (gv_var rfl h2) hz (fun x => rfl) fun y x H1 hy e1 hs => gv_in (gv_var rfl h1) fun H2 e2 => gv_var rfl (Stb.ex e2 hs))) fun v H1 _ p => ?_
    rw [List.all_map] at p
    exact p
abbrev spInNone : Sp := SpF (fun (a : Nat × List (List Nat)) => a.2.length ≤ 100000) (fun a => [isN a.1, NLL a.2]) (fun a => isB (!a.2.any fun l => decide (a.1 ∈ l)))
theorem scInNone : FnScope ["cell", "ways", "lamps"] ["cell", "ways"] (defScope (top 33)) := ⟨rfl, rfl, rfl, by decide +kernel, rfl, by decide +kernel, by decide +kernel⟩
theorem ok_in_none {f : Addr} {fd : FuncData} (F : Fun K "in_none" "in_none" (top 33) f fd) (T : Blt mg) : FnOk P w K mg base CX0 1 f fd ["cell", "ways"] spInNone := by
  refine F.ok scInNone (fun vs H Q E h => ?_) (fun cdv A outer s H vs Q E hr h => ?_)
  · obtain ⟨a, H0, _, _, hp, _⟩ := h
    exact allP_len hp
  · obtain ⟨⟨n, ws⟩, H0, hz, e, hp, k⟩ := h
    obtain ⟨v, u, rfl, h1, h2⟩ := allP2 hp
    refine ⟨_, pss_one (ps_ret (pe_not (pe_callB (cr_any rfl) (by rfl) T.any boot_any (pa_cons (pe_lc (own := [("lamps", 2)]) (g := gName 2) (tt := tYes) (te := tOp (rIn K false) (tVar 0) (tVar 2)) rfl scInNone.nd (pi_list (pv 1)) (blkOk_by (N := ["cell", "ways", "lamps"]) (sc := defScope (top 33)) (by decide +kernel))
      (fun _ _ _ _ _ => pg_name (i := 2) scInNone.nd rfl (Or.inl rfl)) (fun _ _ _ _ _ => pts_nil) (fun _ _ _ _ _ => pe_cmpR op_in_seq (pv 0) (pv 2) (by rfl))) pa_nil)))), ?_⟩
    refine g_ret e (P := isB (!ws.any fun l => decide (n ∈ l))) ?_ fun v H' F' x p => k v H' F' x p
    refine gv_is (ev_notV (ev_gv (Gv.imp (gv_any (gv_lcB (fun l => decide (n ∈ l)) (gv_var rfl h2) hz (fun x => rfl) fun y x H1 hy e1 hs => gv_in (gv_var rfl h1) fun H2 e2 => gv_var rfl (Stb.ex e2 hs))) fun v H1 _ p => ?_)))
    rw [List.any_map] at p
    exact p
end
end La
set_option Elab.async false
set_option linter.all false
set_option maxRecDepth 100000
set_option maxHeartbeats 4000000
namespace La
open PySem PySem.Spec PyProof.Rows L2 Evl
section
variable {σ : L2.St} {H F : Hp} {te ta tb tl ty td : TE} {tt : TT} {j : Nat} {vs : List Nat} {α : Type} {S : α → VP} {K : PySem.W.Frag}
theorem allP_map {R : α → VP} : ∀ {xs : List α} {us : List V}, AllP (xs.map R) us H → Paired (fun x u => R x u H) xs us
  | [], [], _ => .nil
  | [], _ :: _, h => h.elim
  | _ :: _, [], h => h.elim
  | x :: xs, u :: us, h => .cons h.1 (allP_map h.2)
/-- [e, ..] -/
theorem gv_lst {R : α → VP} [s : ∀ x, Stb (R x)] {tr : TA} {xs : List α} (h : GvA tr σ H (xs.map R)) (hz : xs.length ≤ 100000) : Gv (tLst tr) σ H (Lst R xs) := fun F e Q q =>
  h F e _ fun us H1 F1 x hp => ⟨by have := pr_len (allP_map hp); exact sz_of (by omega), fun p hf => q _ (upd H1 p (.lst us)) _ (x.trans (Ext.new x.s hf (Ex.new hf) upd_same))
    ⟨p, us, rfl, upd_same, paired_ex (Ex.new (fresh_back x.s hf)) (allP_map hp)⟩⟩
/-- a for over a list; what is known stays -/
theorem g_for {g : TG} {tu : TS} {D : Ends} [∀ x, Stb (S x)] {xs : List α} (e : Ex H F) (h : Gv tl σ H (Lst S xs)) (Pv : Hp → Nat → L2.St → Hp → Prop)
    (h0 : ∀ H1 F1, Ext H F H1 F1 → Pv H1 0 σ F1) (hk : ∀ H1 i σ' F', Pv H1 i σ' F' → Ex H1 F')
    (hs : ∀ H1 F1 i y v σ' F', Ext H F H1 F1 → xs[i]? = some y → S y v H1 → Pv H1 i σ' F' → g v σ' F' fun σ2 F2 => tu { D with nx := Pv H1 (i + 1), ct := Pv H1 (i + 1), bk := D.nx } σ2 F2)
    (hd : ∀ H1 F1 σ' F', Ext H F H1 F1 → Pv H1 xs.length σ' F' → D.nx σ' F') : tFor (iList K tl) g tu D σ F :=
  h F e _ fun v H1 F1 x ⟨a, us, hv, ha, hp⟩ => by
    refine ⟨a, hv, ⟨us, sq_of (x.s a _ ha)⟩, for_list (xs := us) (Pv H1) (h0 H1 F1 x) (fun i σ' F' _ p => sq_of (hk _ _ _ _ p a _ ha)) ?_ ?_⟩
    · intro i u σ' F' hu p
      obtain ⟨y, hy, hs'⟩ := pr_at hp hu
      exact hs H1 F1 i y u σ' F' x hy hs' p
    · intro σ' F' p
      rw [← pr_len hp] at p
      exact hd H1 F1 σ' F' x p
theorem g_seqFor {g : TG} {tu tz : TS} {D : Ends} [∀ x, Stb (S x)] {xs : List α} (e : Ex H F) (h : Gv tl σ H (Lst S xs)) (Pv : Hp → Nat → L2.St → Hp → Prop)
    (h0 : ∀ H1 F1, Ext H F H1 F1 → Pv H1 0 σ F1) (hk : ∀ H1 i σ' F', Pv H1 i σ' F' → Ex H1 F')
    (hs : ∀ H1 F1 i y v σ' F', Ext H F H1 F1 → xs[i]? = some y → S y v H1 → Pv H1 i σ' F' → g v σ' F' fun σ2 F2 => tu { D with nx := Pv H1 (i + 1), ct := Pv H1 (i + 1), bk := tz D } σ2 F2)
    (hd : ∀ H1 F1 σ' F', Ext H F H1 F1 → Pv H1 xs.length σ' F' → tz D σ' F') : tSeq (tFor (iList K tl) g tu) tz D σ F := g_for (D := { D with nx := tz D }) e h Pv h0 hk hs hd
theorem gv_eq {i j : Int} (h : Gv te σ H (isI i)) (e : i = j) : Gv te σ H (isI j) := by rw [← e]; exact h
theorem gv_nle {l m : List Nat} (h : Gv te σ H (Lst isN l)) (e : l = m) : Gv te σ H (NL m) := by rw [← e]; exact gv_nl h
end
section
variable {P : Program} {w : World} {K : PySem.W.Frag} {mg : Str → Option Value} {base : Heap}
/-! ### lines_from -/
abbrev spLines : Sp := SpF (fun (a : Nat × Nat × Nat) => Size a.1 a.2.1 ∧ a.2.2 < 1000) (fun a => [isN a.1, isN a.2.1, isN a.2.2]) (fun a => NLL (lines a.1 a.2.1 a.2.2))
theorem scLines : FnScope ["rows", "columns", "cell", "row", "column", "above", "left", "right", "below", "line"] ["rows", "columns", "cell"] (defScope (top 5)) := ⟨rfl, rfl, rfl, by decide +kernel, rfl, by decide +kernel, by decide +kernel⟩
theorem ok_lines {f : Addr} {fd : FuncData} (Fn : Fun K "lines_from" "lines_from" (top 5) f fd) (T : Blt mg) : FnOk P w K mg base CX0 1 f fd ["rows", "columns", "cell"] spLines := by
  refine Fn.ok scLines (fun vs H Q E h => ?_) (fun cdv A outer s F vs Q E hr h => ?_)
  · obtain ⟨a, H0, _, _, hp, _⟩ := h
    exact allP_len hp
  · obtain ⟨⟨r, c, x⟩, H, ⟨hz, hx⟩, e, hp, k⟩ := h
    obtain ⟨v1, v2, v3, rfl, h1, h2, h3⟩ := allP3 hp
    refine ⟨_, pss_cons (ps_asg (pe_callB call_divmod (by rfl) T.divmod boot_divmod (pa_cons (pv 2) (pa_cons (pv 1) pa_nil))) (pg_tup rfl (pgs_cons (pg_name (i := 3) scLines.nd rfl (Or.inr rfl)) (pgs_cons (pg_name (i := 4) scLines.nd rfl (Or.inr rfl)) pgs_nil))))
      (pss_cons (ps_setLc (i := 5) (own := [("line", 9)]) (g := gName 9) (tt := tYes) (te := tOp (rI0 fun i j => .int (i + j)) (tOp (rI CMul fun i j => .int (i * j)) (tVar 9) (tVar 1)) (tVar 4)) rfl scLines.nd rfl rfl (sw_true rfl rfl rfl (by decide +kernel)) (pi_range3 (by rfl) T.range (pa_cons (pe_op op_sub (pv 3) pe_int) (pa_cons (pe_un un_neg pe_int) (pa_cons (pe_un un_neg pe_int) pa_nil)))) (blkOk_by (own := [("line", 9)]) (N := ["rows", "columns", "cell", "row", "column", "above", "left", "right", "below", "line"]) (sc := defScope (top 5)) (by decide +kernel))
        (fun _ _ _ _ _ => pg_name (i := 9) scLines.nd rfl (Or.inl rfl)) (fun _ _ _ _ _ => pts_nil) (fun _ _ _ _ _ => pe_op op_add (pe_op op_mul (pv 9) (pv 1)) (pv 4)))
      (pss_cons (ps_setLc (i := 6) (own := [("line", 9)]) (g := gName 9) (tt := tYes) (te := tOp (rI0 fun i j => .int (i + j)) (tOp (rI CMul fun i j => .int (i * j)) (tVar 3) (tVar 1)) (tVar 9)) rfl scLines.nd rfl rfl (sw_true rfl rfl rfl (by decide +kernel)) (pi_range3 (by rfl) T.range (pa_cons (pe_op op_sub (pv 4) pe_int) (pa_cons (pe_un un_neg pe_int) (pa_cons (pe_un un_neg pe_int) pa_nil)))) (blkOk_by (own := [("line", 9)]) (N := ["rows", "columns", "cell", "row", "column", "above", "left", "right", "below", "line"]) (sc := defScope (top 5)) (by decide +kernel))
        (fun _ _ _ _ _ => pg_name (i := 9) scLines.nd rfl (Or.inl rfl)) (fun _ _ _ _ _ => pts_nil) (fun _ _ _ _ _ => pe_op op_add (pe_op op_mul (pv 3) (pv 1)) (pv 9)))
      (pss_cons (ps_setLc (i := 7) (own := [("line", 9)]) (g := gName 9) (tt := tYes) (te := tOp (rI0 fun i j => .int (i + j)) (tOp (rI CMul fun i j => .int (i * j)) (tVar 3) (tVar 1)) (tVar 9)) rfl scLines.nd rfl rfl (sw_true rfl rfl rfl (by decide +kernel)) (pi_range2 (by rfl) T.range (pa_cons (pe_op op_add (pv 4) pe_int) (pa_cons (pv 1) pa_nil))) (blkOk_by (own := [("line", 9)]) (N := ["rows", "columns", "cell", "row", "column", "above", "left", "right", "below", "line"]) (sc := defScope (top 5)) (by decide +kernel))
        (fun _ _ _ _ _ => pg_name (i := 9) scLines.nd rfl (Or.inl rfl)) (fun _ _ _ _ _ => pts_nil) (fun _ _ _ _ _ => pe_op op_add (pe_op op_mul (pv 3) (pv 1)) (pv 9)))
      (pss_cons (ps_setLc (i := 8) (own := [("line", 9)]) (g := gName 9) (tt := tYes) (te := tOp (rI0 fun i j => .int (i + j)) (tOp (rI CMul fun i j => .int (i * j)) (tVar 9) (tVar 1)) (tVar 4)) rfl scLines.nd rfl rfl (sw_true rfl rfl rfl (by decide +kernel)) (pi_range2 (by rfl) T.range (pa_cons (pe_op op_add (pv 3) pe_int) (pa_cons (pv 0) pa_nil))) (blkOk_by (own := [("line", 9)]) (N := ["rows", "columns", "cell", "row", "column", "above", "left", "right", "below", "line"]) (sc := defScope (top 5)) (by decide +kernel))
        (fun _ _ _ _ _ => pg_name (i := 9) scLines.nd rfl (Or.inl rfl)) (fun _ _ _ _ _ => pts_nil) (fun _ _ _ _ _ => pe_op op_add (pe_op op_mul (pv 9) (pv 1)) (pv 4)))
      (pss_one (ps_ret (pe_lst (pa_cons (pv 5) (pa_cons (pv 6) (pa_cons (pv 7) (pa_cons (pv 8) pa_nil))))))))))), ?_⟩
    obtain rfl : v1 = nv r := h1
    obtain rfl : v2 = nv c := h2
    obtain rfl : v3 = nv x := h3
    replace hz : Size r c := hz
    replace hx : x < 1000 := hx
    have hz1 := hz.r1
    have hz2 := hz.r4
    have hz3 := hz.c1
    have hz4 := hz.c4
    refine ⟨_, rfl, _, rfl, (x : Int), (c : Int), rfl, ⟨by omega, by omega⟩, fun p hp => ⟨p, _, rfl, st_of upd_same, rfl, _, _, rfl, _, _, rfl, rfl, ?_⟩⟩
    have q1 : (x : Int) / (c : Int) = ((x / c : Nat) : Int) := (Int.natCast_ediv x c).symm
    have q2 : (x : Int) % (c : Int) = ((x % c : Nat) : Int) := (Int.natCast_emod x c).symm
    have b1 : x / c ≤ x := Nat.div_le_self x c
    have b2 : x % c < c := Nat.mod_lt x (by omega)
    rw [q1, q2]
    generalize hrow : x / c = row at *
    generalize hcol : x % c = col at *
    have x0 := Ext.same e (Ex.new (o := .tup [.int (row : Int), .int (col : Int)]) hp)
    have cm : ∀ (z : Int), CMul z (c : Int) := fun z => .inr ⟨by omega, by omega⟩
    refine g_seqAsg x0.s (P := NL (above c x)) (gv_nle (gv_lcR3 (n := row) (R := isN) (fun _ => true) (fun i => (row - 1 - i) * c + col) (ea_cons (ev_op (ev_var rfl) ev_c rv_I0) (ea_cons (ev_un ev_c ru_neg) (ea_cons (ev_un ev_c ru_neg) ea_nil))) (by omega) (by omega) (by omega) (fun x => rfl) (fun _ _ _ _ => et_yes)
      (fun i H1 hi _ _ => gv_eq (gv_I0 (gv_I (gv_var rfl rfl) (gv_var rfl rfl) (cm _)) (gv_var rfl rfl)) ?_)) ?_) fun v5 H5 F5 x5 p5 => ?_
    · have : ((row : Int) - 1 + (i : Int) * -1) = ((row - 1 - i : Nat) : Int) := by omega
      rw [this, Int.natCast_add, Int.natCast_mul]
    · rw [map_true, above, hrow, hcol]
    refine g_seqAsg x5.s (P := NL (left c x)) (gv_nle (gv_lcR3 (n := col) (R := isN) (fun _ => true) (fun i => row * c + (col - 1 - i)) (ea_cons (ev_op (ev_var rfl) ev_c rv_I0) (ea_cons (ev_un ev_c ru_neg) (ea_cons (ev_un ev_c ru_neg) ea_nil))) (by omega) (by omega) (by omega) (fun x => rfl) (fun _ _ _ _ => et_yes)
      (fun i H1 hi _ _ => gv_eq (gv_I0 (gv_I (gv_var rfl rfl) (gv_var rfl rfl) (cm _)) (gv_var rfl rfl)) ?_)) ?_) fun v6 H6 F6 x6 p6 => ?_
    · have : ((col : Int) - 1 + (i : Int) * -1) = ((col - 1 - i : Nat) : Int) := by omega
      rw [this, Int.natCast_add, Int.natCast_mul]
    · rw [map_true, left, hrow, hcol]
    refine g_seqAsg x6.s (P := NL (right c x)) (gv_nle (gv_lcR2 (n := c - (col + 1)) (R := isN) (fun _ => true) (fun i => row * c + (col + 1 + i)) (ea_cons (ev_op (ev_var rfl) ev_c rv_I0) (ea_cons (ev_var rfl) ea_nil)) (by omega) (by omega) (by omega) (fun x => rfl) (fun _ _ _ _ => et_yes)
      (fun i H1 hi _ _ => gv_eq (gv_I0 (gv_I (gv_var rfl rfl) (gv_var rfl rfl) (cm _)) (gv_var rfl rfl)) ?_)) ?_) fun v7 H7 F7 x7 p7 => ?_
    · simp only [Int.natCast_add, Int.natCast_mul]
      rfl
    · rw [map_true, right, hrow, hcol]
    refine g_seqAsg x7.s (P := NL (below r c x)) (gv_nle (gv_lcR2 (n := r - (row + 1)) (R := isN) (fun _ => true) (fun i => (row + 1 + i) * c + col) (ea_cons (ev_op (ev_var rfl) ev_c rv_I0) (ea_cons (ev_var rfl) ea_nil)) (by omega) (by omega) (by omega) (fun x => rfl) (fun _ _ _ _ => et_yes)
      (fun i H1 hi _ _ => gv_eq (gv_I0 (gv_I (gv_var rfl rfl) (gv_var rfl rfl) (cm _)) (gv_var rfl rfl)) ?_)) ?_) fun v8 H8 F8 x8 p8 => ?_
    · simp only [Int.natCast_add, Int.natCast_mul]
      rfl
    · rw [map_true, below, hrow, hcol]
    refine g_ret x8.s (P := NLL (lines r c x)) (gv_lst (xs := lines r c x) (ga_cons (gv_var rfl (Stb.ex ((x6.trans x7).trans x8).k p5)) fun _ e6 => ga_cons (gv_var rfl (Stb.ex ((x7.trans x8).k.trans e6) p6)) fun _ e7 => ga_cons (gv_var rfl (Stb.ex ((x8.k.trans e6).trans e7) p7)) fun _ e8 => ga_one (gv_var rfl (Stb.ex ((e6.trans e7).trans e8) p8))) (by show 4 ≤ 100000; decide)) fun v H' F' x p => ?_
    exact k v H' F' (((((x0.trans x5).trans x6).trans x7).trans x8).trans x) p
end
end La
set_option Elab.async false
set_option linter.all false
set_option maxRecDepth 100000
set_option maxHeartbeats 4000000
namespace La
open PySem PySem.Spec PyProof.Rows L2 Evl
theorem filterMap_head : ∀ L : List (List Nat), (L.filter fun l => decide (0 < l.length)).map (fun l => l.headD 0) = L.filterMap List.head?
  | [] => rfl
  | [] :: L => by
    have ih := filterMap_head L
    rw [List.filterMap_cons]
    simpa using ih
  | (a :: l) :: L => by
    have ih := filterMap_head L
    simpa using ih
theorem dec_iff {p q : Prop} [Decidable p] [Decidable q] (h : p ↔ q) : decide p = decide q := by
  by_cases hq : q
  · rw [decide_eq_true hq, decide_eq_true (h.mpr hq)]
  · rw [decide_eq_false hq, decide_eq_false (fun x => hq (h.mp x))]
theorem lines_length (r c x : Nat) : (lines r c x).length = 4 := rfl
section
variable {P : Program} {w : World} {K : PySem.W.Frag} {mg : Str → Option Value} {base : Heap}
/-! ### beside -/
abbrev spBeside : Sp := SpF (fun (a : Nat × Nat × Nat) => Size a.1 a.2.1 ∧ a.2.2 < 1000) (fun a => [isN a.1, isN a.2.1, isN a.2.2]) (fun a => NL (besideM a.1 a.2.1 a.2.2))
theorem scBeside : FnScope ["rows", "columns", "cell", "line"] ["rows", "columns", "cell"] (defScope (top 6)) := ⟨rfl, rfl, rfl, by decide +kernel, rfl, by decide +kernel, by decide +kernel⟩
theorem ok_beside {f : Addr} {fd : FuncData} (Fn : Fun K "beside" "beside" (top 6) f fd) (T : Blt mg) (HL : Has P w K mg base "lines_from" 1 ["rows", "columns", "cell"] spLines) : FnOk P w K mg base CX0 2 f fd ["rows", "columns", "cell"] spBeside := by
  refine Fn.ok scBeside (fun vs H Q E h => ?_) (fun cdv A outer s F vs Q E hr h => ?_)
  · obtain ⟨a, H0, _, _, hp, _⟩ := h
    exact allP_len hp
  · obtain ⟨⟨r, c, x⟩, H, hc, e, hp, k⟩ := h
    obtain ⟨v1, v2, v3, rfl, h1, h2, h3⟩ := allP3 hp
    refine ⟨_, pss_one (ps_ret (pe_lc (own := [("line", 3)]) (g := gName 3) (tt := tTest (tOp (rI0 fun i j => .bl (decide (j < i))) (tCB (rLenS K) (tCons (tVar 3) tNil)) (tC (.int 0)))) (te := tOp (rIxL K) (tVar 3) (tC (.int 0))) rfl scBeside.nd
      (pi_list (pe_has HL hr (by rfl) (pa_cons (pv 0) (pa_cons (pv 1) (pa_cons (pv 2) pa_nil))))) (blkOk_by (N := ["rows", "columns", "cell", "line"]) (sc := defScope (top 6)) (by decide +kernel))
      (fun _ _ _ _ _ => pg_name (i := 3) scBeside.nd rfl (Or.inl rfl)) (fun _ _ _ _ _ => pts_one (pt_cmpR op_gt (pe_callB call_len_seq (by rfl) T.len boot_len (pa_cons (pv 3) pa_nil)) pe_int (nomark _))) (fun _ _ _ _ _ => pe_ix ix_list (pv 3) pe_int (fun _ _ => rfl)))), ?_⟩
    refine g_ret e (P := NL (besideM r c x)) (gv_nle (gv_lc (S := NL) (R := isN) (fun l => decide (0 < l.length)) (fun l => l.headD 0) (xs := lines r c x) (gv_call (r, c, x) hc (ga_cons (gv_var rfl h1) fun _ e1 => ga_cons (gv_var rfl (Stb.ex e1 h2)) fun _ e2 => ga_one (gv_var rfl (Stb.ex (e1.trans e2) h3)))) (by rw [lines_length]; decide) (fun x => rfl)
      (fun y v H1 _ _ hs => ?_) (fun y v H1 _ hf _ hs => ?_)) (filterMap_head _)) fun v H' F' x p => k v H' F' x p
    · refine et_is (et_gv (gv_I0 (gv_lenN (gv_var rfl hs)) gv_c)) (dec_iff (by omega))
    · obtain ⟨a, rfl, ha⟩ := hs
      refine gv_op (gv_var rfl rfl) gv_c (rv_ixL (sq_of ha) ?_)
      cases y with
      | nil => simp at hf
      | cons b l => exact atI_nat (xs := (b :: l).map nv) (j := 0) (v := nv b) rfl
end
end La
set_option Elab.async false
set_option linter.all false
set_option maxRecDepth 100000
set_option maxHeartbeats 4000000
namespace La
open PySem PySem.Spec PyProof.Rows L2 Evl
theorem map_snoc {α β : Type} (g : α → β) (l : List α) (y : α) : (l ++ [y]).map g = l.map g ++ [g y] := by rw [List.map_append]; rfl
theorem cut_stop {P : Nat → Bool} : ∀ {l : List Nat} {j y : Nat}, (∀ z ∈ l.take j, P z = false) → l[j]? = some y → P y = true → cut P l = l.take j
  | [], j, y, _, h, _ => by simp at h
  | a :: l, 0, y, _, h, hy => by
    have : a = y := Option.some.inj h
    subst this
    unfold cut
    rw [List.takeWhile_cons]
    simp [hy]
  | a :: l, j + 1, y, h1, h, hy => by
    have ha : P a = false := h1 a (by rw [List.take_succ_cons]; exact List.mem_cons_self)
    have ih := cut_stop (P := P) (l := l) (j := j) (y := y) (fun z hz => h1 z (by rw [List.take_succ_cons]; exact List.mem_cons_of_mem _ hz)) (by simpa using h) hy
    unfold cut at ih ⊢
    rw [List.takeWhile_cons, List.take_succ_cons, ← ih]
    simp [ha]
theorem cut_whole {P : Nat → Bool} : ∀ {l : List Nat}, (∀ z ∈ l, P z = false) → cut P l = l
  | [], _ => rfl
  | a :: l, h => by
    have ih := cut_whole (P := P) (l := l) (fun z hz => h z (List.mem_cons_of_mem _ hz))
    have ha := h a List.mem_cons_self
    unfold cut at ih ⊢
    rw [List.takeWhile_cons, ih]
    simp [ha]
theorem cut_length (P : Nat → Bool) (l : List Nat) : (cut P l).length ≤ l.length := List.Sublist.length_le (List.takeWhile_sublist _)
def litSome (P : Nat → Bool) (r c x i : Nat) : List Nat := x :: ((lines r c x).take i).flatMap (cut P)
theorem litSome_more {P : Nat → Bool} {r c x i : Nat} {l : List Nat} (h : (lines r c x)[i]? = some l) : litSome P r c x (i + 1) = litSome P r c x i ++ cut P l := by
  unfold litSome
  rw [take_snoc h, List.flatMap_append, List.cons_append]
  simp
theorem line_length {r c x i : Nat} {l : List Nat} (hz : Size r c) (hx : x < 1000) (h : (lines r c x)[i]? = some l) : l.length ≤ 1000 := by
  have := List.mem_of_getElem? h
  have h1 := hz.r4
  have h2 := hz.c4
  have h3 := hz.c1
  have hc : x / c ≤ x := Nat.div_le_self x c
  have hm : x % c < c := Nat.mod_lt x (by omega)
  simp only [lines, List.mem_cons, List.not_mem_nil, or_false] at this
  rcases this with rfl | rfl | rfl | rfl
  · simp only [above, List.length_map, List.length_range]; omega
  · simp only [left, List.length_map, List.length_range]; omega
  · simp only [right, List.length_map, List.length_range]; omega
  · simp only [below, List.length_map, List.length_range]; generalize x / c = d at *; omega
theorem litSome_length {P : Nat → Bool} {r c x : Nat} (hz : Size r c) (hx : x < 1000) : ∀ i, i ≤ 4 → (litSome P r c x i).length ≤ 1 + i * 1000
  | 0, _ => by simp [litSome]
  | i + 1, hi => by
    have ih := litSome_length (P := P) hz hx i (by omega)
    obtain ⟨l, hl⟩ : ∃ l, (lines r c x)[i]? = some l := ⟨_, List.getElem?_eq_getElem (by rw [lines_length]; omega)⟩
    rw [litSome_more hl, List.length_append]
    have h1 := cut_length P l
    have h2 := line_length hz hx hl
    omega
theorem gv_lines {σ : L2.St} {H : Hp} {ta : TA} {r c x : Nat} (hz : Size r c) (hx : x < 1000) (h : GvA ta σ H [isN r, isN c, isN x]) : Gv (tCall spLines [] E0 ta) σ H (NLL (lines r c x)) := gv_call (C := fun (a : Nat × Nat × Nat) => Size a.1 a.2.1 ∧ a.2.2 < 1000) (Ps := fun a => [isN a.1, isN a.2.1, isN a.2.2]) (B := fun a => NLL (lines a.1 a.2.1 a.2.2)) (r, c, x) ⟨hz, hx⟩ h
section
variable {P : Program} {w : World} {K : PySem.W.Frag} {mg : Str → Option Value} {base : Heap}
/-! ### lit_from -/
abbrev spLitFrom : Sp := SpF (fun (a : Nat × Nat × (Nat → Bool) × Nat) => Size a.1 a.2.1 ∧ a.2.2.2 < 1000) (fun a => [isN a.1, isN a.2.1, PD a.2.2.1, isN a.2.2.2]) (fun a => NL (litFrom a.2.2.1 a.1 a.2.1 a.2.2.2))
abbrev nLitFrom : List Str := ["rows", "columns", "pillars", "cell", "lit", "line", "far"]
theorem scLitFrom : FnScope nLitFrom ["rows", "columns", "pillars", "cell"] (defScope (top 7)) := ⟨rfl, rfl, rfl, by decide +kernel, rfl, by decide +kernel, by decide +kernel⟩
theorem ok_lit_from {f : Addr} {fd : FuncData} (Fn : Fun K "lit_from" "lit_from" (top 7) f fd) (T : Blt mg) (HL : Has P w K mg base "lines_from" 1 ["rows", "columns", "cell"] spLines) : FnOk P w K mg base CX0 2 f fd ["rows", "columns", "pillars", "cell"] spLitFrom := by
  refine Fn.ok scLitFrom (fun vs H Q E h => ?_) (fun cdv A outer s F vs Q E hr h => ?_)
  · obtain ⟨a, H0, _, _, hp, _⟩ := h
    exact allP_len hp
  · obtain ⟨⟨r, c, B, x⟩, H, ⟨hz, hx⟩, e, hp, k⟩ := h
    replace hz : Size r c := hz
    replace hx : x < 1000 := hx
    obtain ⟨v1, v2, v3, v4, rfl, h1, h2, h3, h4⟩ := allP4 hp
    obtain rfl : v4 = nv x := h4
    refine ⟨_, pss_cons (ps_set (i := 4) scLitFrom.nd rfl (Or.inl rfl) (pe_lst (pa_cons (pv 3) pa_nil)))
      (pss_cons (ps_for PassesOwn.never rfl (pi_list (pe_has HL hr (by rfl) (pa_cons (pv 0) (pa_cons (pv 1) (pa_cons (pv 3) pa_nil))))) (pg_name (i := 5) scLitFrom.nd rfl (Or.inl rfl))
        (pss_one (ps_for PassesOwn.never rfl (pi_list (pv 5)) (pg_name (i := 6) scLitFrom.nd rfl (Or.inl rfl))
          (pss_cons (ps_if (pt_cmp (pc_din (hu_of hr) (pv 6) (pv 2))) (pss_one ps_break) pss_nil)
            (pss_one (ps_expr (pe_bm PySem.F.plainAttrs_list PySem.F.slot_list_append PySem.F.type_list_append mt_append (pv 4) (pa_cons (pv 6) pa_nil))))))))
      (pss_one (ps_ret (pv 4)))), ?_⟩
    refine s_asgL (el_lst (ea_cons (ev_var rfl) ea_nil) (by show 1 ≤ 100000; decide)) fun p F0 hp0 e0 hF0 => ?_
    -- lit stands at p, which nobody else knows
    have ek : Ex H F0 := e.trans e0
    have hpH : H p = none := fresh_back e hp0
    refine g_seqFor (H := H) (S := NL) (xs := lines r c x) ek (gv_lines hz hx (ga_cons (gv_var rfl h1) fun _ e1 => ga_cons (gv_var rfl (Stb.ex e1 h2)) fun _ e2 => ga_one (gv_var rfl rfl)))
      (fun H1 i σ' F' => ∃ v5 v6, σ' = [some v1, some v2, some v3, some (nv x), some (.ref p), v5, v6] ∧ Ex H1 F' ∧ Ex F F' ∧ H1 p = none ∧ F' p = some (.lst ((litSome B r c x i).map nv)))
      (fun H1 F1 x1 => ⟨none, none, rfl, x1.s, e0.trans x1.f, x1.out hF0 hpH, x1.f p _ hF0⟩) (fun H1 i σ' F' ⟨_, _, _, h, _⟩ => h) ?_ ?_
    · rintro H1 F1 i l v σ' F' x1 hl hv ⟨v5, v6, rfl, q1, q2, q3, q4⟩
      have hi : i < 4 := (List.getElem?_eq_some_iff.mp hl).1
      have hsz := litSome_length (P := B) hz hx i (by omega)
      have hln := line_length hz hx hl
      show tFor _ _ _ _ [some v1, some v2, some v3, some (nv x), some (.ref p), some v, v6] F'
      refine g_for (H := H1) (S := isN) (xs := l) q1 (gv_var rfl (nl_lst.mp hv))
        (fun H2 j σ' F' => ∃ v6, σ' = [some v1, some v2, some v3, some (nv x), some (.ref p), some v, v6] ∧ Ex H2 F' ∧ Ex H1 H2 ∧ Ex F F' ∧ H2 p = none ∧ F' p = some (.lst ((litSome B r c x i ++ l.take j).map nv)) ∧ ∀ z ∈ l.take j, B z = false)
        (fun H2 F2 x2 => ⟨v6, rfl, x2.s, x2.k, q2.trans x2.f, x2.out q4 q3, by rw [List.take_zero, List.append_nil]; exact x2.f p _ q4, by simp⟩) (fun H2 j σ' F' ⟨_, _, h, _⟩ => h) ?_ ?_
      · rintro H2 F2 j y u σ' F2' x2 hy hu ⟨v6', rfl, w1, w2, w3, w4, w5, w6⟩
        obtain rfl : u = nv y := hu
        have hj := (List.getElem?_eq_some_iff.mp hy).1
        show tSeq _ _ _ [some v1, some v2, some v3, some (nv x), some (.ref p), some v, some (nv y)] F2'
        refine g_seqIf (H := H2) w1 (et_gvB (gv_din (P := B) (n := y) (gv_var rfl rfl) fun H3 e3 => gv_var rfl (Stb.ex (((x1.k.trans w2)).trans e3) h3))) (fun hb F3 e3 => ?_) (fun hb F3 e3 => ?_)
        · -- break
          refine ⟨some v, some (nv y), rfl, (w2.trans w1).trans e3, w3.trans e3, q3, ?_⟩
          rw [litSome_more hl, cut_stop w6 hy hb]
          exact e3 p _ w5
        · refine s_app (K := K) (l := p) (e3 p _ w5) (ev_var rfl) (ev_var rfl) (by rw [List.length_map, List.length_append, List.length_take]; omega) fun F4 e4 => ?_
          have w1' : Ex H2 F4 := (w1.trans e3).trans e4
          refine ⟨some (nv y), rfl, Ex.mut w1' w4, w2, ?_, w4, ?_, ?_⟩
          · exact Ex.mut ((w3.trans e3).trans e4) hp0
          · rw [take_snoc hy, ← List.append_assoc, map_snoc]
            exact upd_same
          · intro z hz'
            rw [take_snoc hy] at hz'
            rcases List.mem_append.mp hz' with h | h
            · exact w6 z h
            · have : z = y := by simpa using h
              rw [this]
              exact hb
      · rintro H2 F2 σ' F2' x2 ⟨v6', rfl, w1, w2, w3, w4, w5, w6⟩
        refine ⟨some v, v6', rfl, w2.trans w1, w3, q3, ?_⟩
        rw [List.take_length] at w5 w6
        rw [litSome_more hl, cut_whole w6]
        exact w5
    · rintro H1 F1 σ' F' x1 ⟨v5, v6, rfl, q1, q2, q3, q4⟩
      rw [lines_length] at q4
      exact ⟨_, rfl, k _ _ F' (Ext.new e hp0 q2 q4) ⟨p, rfl, upd_same⟩⟩
end
end La
set_option Elab.async false
set_option linter.all false
set_option maxRecDepth 100000
set_option maxHeartbeats 4000000
namespace La
open PySem PySem.Spec PyProof.Rows L2 Evl
theorem gv_litFrom {σ : L2.St} {H : Hp} {ta : TA} {r c x : Nat} {B : Nat → Bool} (hz : Size r c) (hx : x < 1000) (h : GvA ta σ H [isN r, isN c, PD B, isN x]) : Gv (tCall spLitFrom [] E0 ta) σ H (NL (litFrom B r c x)) :=
  gv_call (C := fun (a : Nat × Nat × (Nat → Bool) × Nat) => Size a.1 a.2.1 ∧ a.2.2.2 < 1000) (Ps := fun a => [isN a.1, isN a.2.1, PD a.2.2.1, isN a.2.2.2]) (B := fun a => NL (litFrom a.2.2.1 a.1 a.2.1 a.2.2.2)) (r, c, B, x) ⟨hz, hx⟩ h
theorem litFrom_length {P : Nat → Bool} {r c x : Nat} (hz : Size r c) (hx : x < 1000) : (litFrom P r c x).length ≤ 4001 := by
  have := litSome_length (P := P) hz hx 4 (Nat.le_refl _)
  unfold litSome at this
  rw [List.take_of_length_le (by rw [lines_length]; exact Nat.le_refl _)] at this
  exact this
section
variable {P : Program} {w : World} {K : PySem.W.Frag} {mg : Str → Option Value} {base : Heap}
/-! ### bits_of -/
abbrev spBits : Sp := SpF (fun (l : List Nat) => l.length ≤ 100000 ∧ ∀ x ∈ l, x ≤ 1000) (fun l => [NL l]) (fun l => isN (bitsOf l))
theorem scBits : FnScope ["cells", "cell"] ["cells"] (defScope (top 10)) := ⟨rfl, rfl, rfl, by decide +kernel, rfl, by decide +kernel, by decide +kernel⟩
theorem bits_sum : ∀ l : List Nat, (l.map fun (x : Nat) => (1 : Int) * 2 ^ ((x : Int)).toNat).sum = (bitsOf l : Nat)
  | [] => rfl
  | a :: l => by
    have ih := bits_sum l
    rw [List.map_cons, List.sum_cons, ih, bitsOf_cons, Int.natCast_add, Int.toNat_natCast, Int.one_mul]
    congr 1
theorem gv_bits {σ : L2.St} {H : Hp} {ta : TA} {l : List Nat} (hz : l.length ≤ 100000) (hx : ∀ x ∈ l, x ≤ 1000) (h : GvA ta σ H [NL l]) : Gv (tCall spBits [] E0 ta) σ H (isN (bitsOf l)) :=
  gv_call (C := fun (l : List Nat) => l.length ≤ 100000 ∧ ∀ x ∈ l, x ≤ 1000) (Ps := fun l => [NL l]) (B := fun l => isN (bitsOf l)) l ⟨hz, hx⟩ h
theorem ok_bits {f : Addr} {fd : FuncData} (Fn : Fun K "bits_of" "bits_of" (top 10) f fd) (T : Blt mg) : FnOk P w K mg base CX0 1 f fd ["cells"] spBits := by
  refine Fn.ok scBits (fun vs H Q E h => ?_) (fun cdv A outer s F vs Q E hr h => ?_)
  · obtain ⟨a, H0, _, _, hp, _⟩ := h
    exact allP_len hp
  · obtain ⟨l, H, ⟨hz, hx⟩, e, hp, k⟩ := h
    obtain ⟨v1, rfl, h1⟩ := allP1 hp
    refine ⟨_, pss_one (ps_ret (pe_callB (cr_sum rfl) (by rfl) T.sum boot_sum (pa_cons (pe_lc (own := [("cell", 1)]) (g := gName 1) (tt := tYes) (te := tOp (rI CPow fun i j => .int (i * 2 ^ j.toNat)) (tC (.int 1)) (tVar 1)) rfl scBits.nd
      (pi_list (pv 0)) (blkOk_by (N := ["cells", "cell"]) (sc := defScope (top 10)) (by decide +kernel)) (fun _ _ _ _ _ => pg_name (i := 1) scBits.nd rfl (Or.inl rfl)) (fun _ _ _ _ _ => pts_nil) (fun _ _ _ _ _ => pe_op op_shl pe_int (pv 1))) pa_nil))), ?_⟩
    refine g_ret e (P := isN (bitsOf l)) ?_ fun v H' F' x p => k v H' F' x p
    have q := gv_sum (K := K) (gv_lcI (K := K) (te := tOp (rI CPow fun i j => .int (i * 2 ^ j.toNat)) (tC (.int 1)) (tVar 1)) (S := isN) (j := 1) (vs := [1]) (σ := L2.start ["cells", "cell"] [v1]) (fun (x : Nat) => (1 : Int) * 2 ^ ((x : Int)).toNat) (gv_var (i := 0) rfl (nl_lst.mp h1)) hz (fun x => rfl) fun y v H1 hy _ hs => ?_)
    · rw [bits_sum] at q
      exact q
    · obtain rfl : v = nv y := hs
      have := hx y hy
      exact gv_I gv_c (gv_var rfl rfl) ⟨by omega, by omega, by decide⟩
/-! ### is_lit_by_another -/
abbrev litByOther (B : Nat → Bool) (r c : Nat) (l : List Nat) : Bool := l.any fun x => l.any fun y => (!decide (y = x)) && decide (y ∈ litFrom B r c x)
abbrev spIsLit : Sp := SpF (fun (a : Nat × Nat × (Nat → Bool) × List Nat) => Size a.1 a.2.1 ∧ a.2.2.2.length ≤ 100000 ∧ ∀ x ∈ a.2.2.2, x < 1000) (fun a => [isN a.1, isN a.2.1, PD a.2.2.1, NL a.2.2.2]) (fun a => isB (litByOther a.2.2.1 a.1 a.2.1 a.2.2.2))
theorem gv_isLit {σ : L2.St} {H : Hp} {ta : TA} {r c : Nat} {B : Nat → Bool} {l : List Nat} (hz : Size r c) (hl : l.length ≤ 100000) (hx : ∀ x ∈ l, x < 1000) (h : GvA ta σ H [isN r, isN c, PD B, NL l]) : Gv (tCall spIsLit [] E0 ta) σ H (isB (litByOther B r c l)) :=
  gv_call (C := fun (a : Nat × Nat × (Nat → Bool) × List Nat) => Size a.1 a.2.1 ∧ a.2.2.2.length ≤ 100000 ∧ ∀ x ∈ a.2.2.2, x < 1000) (Ps := fun a => [isN a.1, isN a.2.1, PD a.2.2.1, NL a.2.2.2]) (B := fun a => isB (litByOther a.2.2.1 a.1 a.2.1 a.2.2.2)) (r, c, B, l) ⟨hz, hl, hx⟩ h
abbrev nIsLit : List Str := ["rows", "columns", "pillars", "lamps", "lamp", "light", "other"]
theorem scIsLit : FnScope nIsLit ["rows", "columns", "pillars", "lamps"] (defScope (top 9)) := ⟨rfl, rfl, rfl, by decide +kernel, rfl, by decide +kernel, by decide +kernel⟩
theorem nv_eq {n m : Nat} : decide (nv n = nv m) = decide (n = m) := dec_iff ⟨fun h => by injection h with h; omega, fun h => by rw [h]⟩
theorem any_stop {α : Type} {p : α → Bool} {l : List α} {i : Nat} {y : α} (h : l[i]? = some y) (hy : p y = true) : l.any p = true := List.any_eq_true.mpr ⟨y, List.mem_of_getElem? h, hy⟩
theorem ok_isLit {f : Addr} {fd : FuncData} (Fn : Fun K "is_lit_by_another" "is_lit_by_another" (top 9) f fd) (T : Blt mg) (HL : Has P w K mg base "lit_from" 2 ["rows", "columns", "pillars", "cell"] spLitFrom) : FnOk P w K mg base CX0 3 f fd ["rows", "columns", "pillars", "lamps"] spIsLit := by
  refine Fn.ok scIsLit (fun vs H Q E h => ?_) (fun cdv A outer s F vs Q E hr h => ?_)
  · obtain ⟨a, H0, _, _, hp, _⟩ := h
    exact allP_len hp
  · obtain ⟨⟨r, c, B, l⟩, H, ⟨hz, hl, hx⟩, e, hp, k⟩ := h
    replace hz : Size r c := hz
    replace hx : ∀ x ∈ l, x < 1000 := hx
    replace hl : l.length ≤ 100000 := hl
    obtain ⟨v1, v2, v3, v4, rfl, h1, h2, h3, h4⟩ := allP4 hp
    refine ⟨_, pss_cons (ps_for PassesOwn.never rfl (pi_list (pv 3)) (pg_name (i := 4) scIsLit.nd rfl (Or.inr rfl))
      (pss_cons (ps_set (i := 5) scIsLit.nd rfl (Or.inr rfl) (pe_has HL hr (by rfl) (pa_cons (pv 0) (pa_cons (pv 1) (pa_cons (pv 2) (pa_cons (pv 4) pa_nil))))))
      (pss_one (ps_if (pt_val (pe_callB (cr_any rfl) (by rfl) T.any boot_any (pa_cons (pe_lc (own := [("other", 6)]) (g := gName 6) (tt := tYes) (te := tAndV (tOp rNe (tVar 6) (tVar 4)) (tOp (rIn K false) (tVar 6) (tVar 5))) rfl scIsLit.nd (pi_list (pv 3)) (blkOk_by (N := nIsLit) (sc := defScope (top 9)) (by decide +kernel))
        (fun _ _ _ _ _ => pg_name (i := 6) scIsLit.nd rfl (Or.inl rfl)) (fun _ _ _ _ _ => pts_nil) (fun _ _ _ _ _ => pe_and (pe_cmpR op_ne (pv 6) (pv 4) (nomark _)) (pe_one (pe_cmpR op_in_seq (pv 6) (pv 5) (by rfl))))) pa_nil))) (pss_one (ps_ret pe_bl)) pss_nil))))
      (pss_one (ps_ret pe_bl)), ?_⟩
    refine g_seqFor (H := H) (S := isN) (xs := l) e (gv_var rfl (nl_lst.mp h4))
      (fun H1 i σ' F' => ∃ v4' v5 v6, σ' = [some v1, some v2, some v3, some v4, v4', v5, v6] ∧ Ex H1 F' ∧ Ex H H1 ∧ Ex F F' ∧ ((l.take i).any fun x => l.any fun y => (!decide (y = x)) && decide (y ∈ litFrom B r c x)) = false)
      (fun H1 F1 x1 => ⟨none, none, none, rfl, x1.s, x1.k, x1.f, rfl⟩) (fun H1 i σ' F' ⟨_, _, _, _, h, _⟩ => h) ?_ ?_
    · rintro H1 F1 i y u σ' F' x1 hy hu ⟨a4, a5, a6, rfl, q1, q2, q3, q4⟩
      obtain rfl : u = nv y := hu
      have hyl := List.mem_of_getElem? hy
      show tSeq _ _ _ [some v1, some v2, some v3, some v4, some (nv y), a5, a6] F'
      refine g_seqAsg (H := H1) (P := NL (litFrom B r c y)) q1 (gv_litFrom hz (hx y hyl) (ga_cons (gv_var rfl h1) fun _ e1 => ga_cons (gv_var rfl (Stb.ex e1 h2)) fun _ e2 => ga_cons (gv_var rfl (Stb.ex ((q2.trans e1).trans e2) h3)) fun _ _ => ga_one (gv_var rfl rfl))) fun v5 H2 F2 x2 p5 => ?_
      have h4' := Stb.ex (q2.trans x2.k) h4
      refine g_if (H := H2) (b := l.any fun z => (!decide (z = y)) && decide (z ∈ litFrom B r c y)) x2.s (et_gvB (Gv.imp (gv_any (gv_lcB (S := isN) (fun z => (!decide (z = y)) && decide (z ∈ litFrom B r c y)) (gv_var rfl (nl_lst.mp h4')) hl (fun x => rfl) fun z v H3 hzl e3 hs => ?_)) fun v H3 _ p => ?_)) (fun hb F3 e3 => ?_) (fun hb F3 e3 => ?_)
      · obtain rfl : v = nv z := hs
        refine gv_is (ev_andV (ev_is (ev_op (ev_var rfl) (ev_var rfl) (rv_ne rfl)) ?_) fun _ => ev_gv (gv_in (gv_var rfl rfl) fun H4 e4 => gv_var rfl (Stb.ex (e3.trans e4) p5)))
        rw [nv_eq]
      · rw [List.any_map] at p
        exact p
      · refine k _ H F3 (Ext.same e ((q3.trans x2.f).trans e3)) ?_
        have : litByOther B r c l = true := any_stop hy hb
        show V.bl true = V.bl (litByOther B r c l)
        rw [this]
      · refine ⟨_, _, _, rfl, (x2.k.trans x2.s).trans e3, q2, (q3.trans x2.f).trans e3, ?_⟩
        rw [take_snoc hy, List.any_append, q4]
        simpa using hb
    · rintro H1 F1 σ' F' x1 ⟨a4, a5, a6, rfl, q1, q2, q3, q4⟩
      rw [List.take_length] at q4
      refine k _ H F' (Ext.same e q3) ?_
      show V.bl false = V.bl (litByOther B r c l)
      rw [show litByOther B r c l = false from q4]
end
end La
set_option Elab.async false
set_option linter.all false
set_option maxRecDepth 100000
set_option maxHeartbeats 4000000
namespace La
open PySem PySem.Spec PyProof.Rows L2 Evl
def kb (ks : List Nat) : List (L2.Key × V) := ks.map fun (n : Nat) => (Sum.inl (n : Int), V.bl true)
theorem val_kb (n : Nat) : ∀ ks : List Nat, (valV (kb ks) (Sum.inl (n : Int))).isSome = decide (n ∈ ks)
  | [] => rfl
  | m :: ks => by
    have ih := val_kb n ks
    show (valV ((Sum.inl (m : Int), V.bl true) :: kb ks) (Sum.inl (n : Int))).isSome = _
    by_cases h : m = n
    · subst h
      rw [valV_pos rfl]
      simp
    · rw [valV_neg (by intro e; injection e with e; omega), ih]
      have : ¬ n = m := fun e => h e.symm
      simp [this]
theorem put_kb (n : Nat) (ks : List Nat) : putK (kb ks) (Sum.inl (n : Int)) (V.bl true) = kb (if n ∈ ks then ks else ks ++ [n]) := by
  have e1 := val_kb n ks
  unfold putK
  rw [valV_any, e1]
  by_cases h : n ∈ ks
  · rw [decide_eq_true h, if_pos rfl, if_pos h]
    unfold kb
    rw [List.map_map]
    apply List.map_congr_left
    intro m _
    show (if (Sum.inl (m : Int) : L2.Key) = Sum.inl (n : Int) then _ else _) = _
    split <;> rfl
  · rw [decide_eq_false h, if_neg Bool.false_ne_true, if_neg h]
    unfold kb
    rw [List.map_append]
    rfl
theorem kb_keys (ks : List Nat) : (kb ks).map (·.1) = (ks.map fun (n : Nat) => (n : Int)).map Sum.inl := by
  unfold kb
  rw [List.map_map, List.map_map]
  rfl
theorem few {ks : List Nat} (hn : ks.Nodup) {N : Nat} (h : ∀ n ∈ ks, n < N) : ks.length ≤ N := by
  have p : ks.Perm ((List.range N).filter fun n => decide (n ∈ ks)) := by
    refine (List.perm_ext_iff_of_nodup hn (List.Pairwise.filter _ List.nodup_range)).mpr fun n => ?_
    rw [List.mem_filter, List.mem_range, decide_eq_true_eq]
    exact ⟨fun x => ⟨h n x, x⟩, fun x => x.2⟩
  rw [p.length_eq]
  exact Nat.le_trans (List.length_filter_le _ _) (by rw [List.length_range]; exact Nat.le_refl _)
theorem rise_nodup {l : List Nat} (h : Rise l) : l.Nodup := List.Pairwise.imp (fun {a b} (q : a < b) => Nat.ne_of_lt q) h
/-- what sorted hands over -/
theorem sorted_is {ks M : List Nat} {ys : List Int} (hn : ks.Nodup) (hM : Rise M) (hm : ∀ n, n ∈ M ↔ n ∈ ks) (hp : ys.Perm (ks.map fun (n : Nat) => (n : Int))) (hs : ys.Pairwise (· ≤ ·)) : ys.map V.int = M.map nv := by
  have p : M.Perm ks := (List.perm_ext_iff_of_nodup (rise_nodup hM) hn).mpr hm
  have e : ys = M.map fun (n : Nat) => (n : Int) := by
    refine List.Perm.eq_of_pairwise (fun x y _ _ h1 h2 => Int.le_antisymm h1 h2) hs ?_ (hp.trans (p.map _).symm)
    rw [List.pairwise_map]
    exact List.Pairwise.imp (fun {a b} (q : a < b) => by omega) hM
  rw [e, List.map_map]
  rfl
def litByM (B : Nat → Bool) (r c : Nat) (l : List Nat) : List Nat := (List.range 16).filter fun n => l.any fun z => decide (n ∈ litFrom B r c z)
theorem litByM_rise (B : Nat → Bool) (r c : Nat) (l : List Nat) : Rise (litByM B r c l) := List.Pairwise.filter _ (range_rise _)
theorem mem_litByM {B : Nat → Bool} {r c : Nat} {l : List Nat} (hz : Size r c) (hx : ∀ x ∈ l, x < r * c) (n : Nat) : n ∈ litByM B r c l ↔ ∃ z ∈ l, n ∈ litFrom B r c z := by
  unfold litByM
  rw [List.mem_filter, List.mem_range, List.any_eq_true]
  constructor
  · rintro ⟨_, z, hz, h⟩
    exact ⟨z, hz, by simpa using h⟩
  · rintro ⟨z, hzl, h⟩
    exact ⟨litFrom_lt16 B hz (hx z hzl) n h, z, hzl, by simpa using h⟩
section
variable {P : Program} {w : World} {K : PySem.W.Frag} {mg : Str → Option Value} {base : Heap}
/-! ### lit_by -/
abbrev spLitBy : Sp := SpF (fun (a : Nat × Nat × (Nat → Bool) × List Nat) => Size a.1 a.2.1 ∧ ∀ x ∈ a.2.2.2, x < a.1 * a.2.1) (fun a => [isN a.1, isN a.2.1, PD a.2.2.1, NL a.2.2.2]) (fun a => NL (litByM a.2.2.1 a.1 a.2.1 a.2.2.2))
theorem gv_litBy {σ : L2.St} {H : Hp} {ta : TA} {r c : Nat} {B : Nat → Bool} {l : List Nat} (hz : Size r c) (hx : ∀ x ∈ l, x < r * c) (h : GvA ta σ H [isN r, isN c, PD B, NL l]) : Gv (tCall spLitBy [] E0 ta) σ H (NL (litByM B r c l)) :=
  gv_call (C := fun (a : Nat × Nat × (Nat → Bool) × List Nat) => Size a.1 a.2.1 ∧ ∀ x ∈ a.2.2.2, x < a.1 * a.2.1) (Ps := fun a => [isN a.1, isN a.2.1, PD a.2.2.1, NL a.2.2.2]) (B := fun a => NL (litByM a.2.2.1 a.1 a.2.1 a.2.2.2)) (r, c, B, l) ⟨hz, hx⟩ h
abbrev nLitBy : List Str := ["rows", "columns", "pillars", "lamps", "lit", "lamp", "cell"]
theorem scLitBy : FnScope nLitBy ["rows", "columns", "pillars", "lamps"] (defScope (top 8)) := ⟨rfl, rfl, rfl, by decide +kernel, rfl, by decide +kernel, by decide +kernel⟩
theorem ok_litBy {f : Addr} {fd : FuncData} (Fn : Fun K "lit_by" "lit_by" (top 8) f fd) (T : Blt mg) (HL : Has P w K mg base "lit_from" 2 ["rows", "columns", "pillars", "cell"] spLitFrom) : FnOk P w K mg base CX0 3 f fd ["rows", "columns", "pillars", "lamps"] spLitBy := by
  refine Fn.ok scLitBy (fun vs H Q E h => ?_) (fun cdv A outer s F vs Q E hr h => ?_)
  · obtain ⟨a, H0, _, _, hp, _⟩ := h
    exact allP_len hp
  · obtain ⟨⟨r, c, B, l⟩, H, ⟨hz, hx⟩, e, hp, k⟩ := h
    replace hz : Size r c := hz
    replace hx : ∀ x ∈ l, x < r * c := hx
    obtain ⟨v1, v2, v3, v4, rfl, h1, h2, h3, h4⟩ := allP4 hp
    refine ⟨_, pss_cons (ps_set (i := 4) scLitBy.nd rfl (Or.inl rfl) pe_dnewK)
      (pss_cons (ps_for PassesOwn.never rfl (pi_list (pv 3)) (pg_name (i := 5) scLitBy.nd rfl (Or.inl rfl))
        (pss_one (ps_for PassesOwn.never rfl (pi_list (pe_has HL hr (by rfl) (pa_cons (pv 0) (pa_cons (pv 1) (pa_cons (pv 2) (pa_cons (pv 5) pa_nil)))))) (pg_name (i := 6) scLitBy.nd rfl (Or.inl rfl))
          (pss_one (ps_dput (hu_of hr) (pv 4) (pv 6) pe_bl rfl)))))
      (pss_one (ps_ret (pe_callB (cr_sortedKeys rfl) (by rfl) T.sorted boot_sorted (pa_cons (pe_bm0 PySem.F.plainAttrs_dict PySem.F.slot_dict_keys PySem.F.type_dict_keys mt_keysK (pv 4)) pa_nil))))), ?_⟩
    intro p hp0
    have e0 : Ex F (upd F p (.dK [])) := Ex.new hp0
    have hpH : H p = none := fresh_back e hp0
    refine g_seqFor (H := H) (S := isN) (xs := l) (e.trans e0) (gv_var rfl (nl_lst.mp h4))
      (fun H1 i σ' F' => ∃ v5 v6 ks, σ' = [some v1, some v2, some v3, some v4, some (.ref p), v5, v6] ∧ Ex H1 F' ∧ Ex H H1 ∧ Ex F F' ∧ H1 p = none ∧ F' p = some (.dK (kb ks)) ∧ ks.Nodup ∧ ∀ n, n ∈ ks ↔ ∃ z ∈ l.take i, n ∈ litFrom B r c z)
      (fun H1 F1 x1 => ⟨none, none, [], rfl, x1.s, x1.k, e0.trans x1.f, x1.out upd_same hpH, x1.f p _ upd_same, .nil, by simp⟩) (fun H1 i σ' F' ⟨_, _, _, _, h, _⟩ => h) ?_ ?_
    · rintro H1 F1 i y u σ' F' x1 hy hu ⟨a5, a6, ks, rfl, q1, q2, q3, q4, q5, q6, q7⟩
      obtain rfl : u = nv y := hu
      have hyl := List.mem_of_getElem? hy
      have hy16 := lt16 hz (hx y hyl)
      show tFor _ _ _ _ [some v1, some v2, some v3, some v4, some (.ref p), some (nv y), a6] F'
      refine g_for (H := H1) (S := isN) (xs := litFrom B r c y) q1 (nl_gv (gv_litFrom hz (by omega) (ga_cons (gv_var rfl h1) fun _ e1 => ga_cons (gv_var rfl (Stb.ex e1 h2)) fun _ e2 => ga_cons (gv_var rfl (Stb.ex ((q2.trans e1).trans e2) h3)) fun _ _ => ga_one (gv_var rfl rfl))))
        (fun H2 j σ' F' => ∃ v6 ks, σ' = [some v1, some v2, some v3, some v4, some (.ref p), some (nv y), v6] ∧ Ex H2 F' ∧ Ex H1 H2 ∧ Ex F F' ∧ H2 p = none ∧ F' p = some (.dK (kb ks)) ∧ ks.Nodup ∧ ∀ n, n ∈ ks ↔ (∃ z ∈ l.take i, n ∈ litFrom B r c z) ∨ n ∈ (litFrom B r c y).take j)
        (fun H2 F2 x2 => ⟨a6, ks, rfl, x2.s, x2.k, q3.trans x2.f, x2.out q5 q4, x2.f p _ q5, q6, fun n => by rw [q7]; simp⟩) (fun H2 j σ' F' ⟨_, _, _, h, _⟩ => h) ?_ ?_
      · rintro H2 F2 j z u σ' F2' x2 hz2 hu ⟨a6', ks', rfl, w1, w2, w3, w4, w5, w6, w7⟩
        obtain rfl : u = nv z := hu
        have hsub : ∀ n ∈ ks', n < 16 := fun n hn => by
          rcases (w7 n).mp hn with ⟨z', hz', h⟩ | h
          · exact litFrom_lt16 B hz (hx z' (List.mem_of_mem_take hz')) n h
          · exact litFrom_lt16 B hz (hx y hyl) n (List.mem_of_mem_take h)
        have hlen := few w6 hsub
        refine ⟨_, rfl, _, rfl, p, _, rfl, DPut.k (k := Sum.inl (z : Int)) w5 (by rw [show (kb ks').length = ks'.length from List.length_map ..]; exact sz_lt (by omega)), ?_⟩
        rw [put_kb]
        refine ⟨some (nv z), _, rfl, Ex.mut w1 w4, w2, Ex.mut w3 hp0, w4, upd_same, ?_, ?_⟩
        · split
          · exact w6
          · rename_i hnot
            exact nd_snoc w6 hnot
        · intro n
          rw [take_snoc hz2, List.mem_append, List.mem_singleton]
          have := w7 n
          split
          · rename_i hin
            rw [this]
            constructor
            · rintro (h | h)
              · exact .inl h
              · exact .inr (.inl h)
            · rintro (h | h | h)
              · exact .inl h
              · exact .inr h
              · subst h
                exact this.mp hin
          · rw [List.mem_append, List.mem_singleton, this]
            constructor
            · rintro ((h | h) | h)
              · exact .inl h
              · exact .inr (.inl h)
              · exact .inr (.inr h)
            · rintro (h | h | h)
              · exact .inl (.inl h)
              · exact .inl (.inr h)
              · exact .inr h
      · rintro H2 F2 σ' F2' x2 ⟨a6', ks', rfl, w1, w2, w3, w4, w5, w6, w7⟩
        refine ⟨_, _, ks', rfl, w2.trans w1, q2, w3, q4, w5, w6, fun n => ?_⟩
        rw [w7 n, List.take_length, take_snoc hy]
        constructor
        · rintro (⟨z, hz', h⟩ | h)
          · exact ⟨z, List.mem_append_left _ hz', h⟩
          · exact ⟨y, by simp, h⟩
        · rintro ⟨z, hz', h⟩
          rcases List.mem_append.mp hz' with hz' | hz'
          · exact .inl ⟨z, hz', h⟩
          · have : z = y := by simpa using hz'
            rw [this] at h
            exact .inr h
    · rintro H1 F1 σ' F' x1 ⟨a5, a6, ks, rfl, q1, q2, q3, q4, q5, q6, q7⟩
      rw [List.take_length] at q7
      have hsub : ∀ n ∈ ks, n < 16 := fun n hn => by
        obtain ⟨z', hz', h⟩ := (q7 n).mp hn
        exact litFrom_lt16 B hz (hx z' hz') n h
      have hlen := few q6 hsub
      refine ⟨_, rfl, .inr (.inr (.inl ⟨rfl, .inl ⟨_, q5⟩⟩)), p, _, rfl, rfl, q5, fun v hv => ?_⟩
      refine ⟨v, p, _, ks.map fun (n : Nat) => (n : Int), rfl, upd_same, (upd_ne (ne_of_none q5 hv)).trans q5, kb_keys ks, by rw [List.length_map]; omega, fun ys a hp1 hs1 ha => ?_⟩
      have hys := sorted_is q6 (litByM_rise B r c l) (fun n => (mem_litByM hz hx n).trans (q7 n).symm) hp1 hs1
      rw [hys]
      have hFa : F' a = none := by
        have : a ≠ v := fun q => by
          subst q
          rw [upd_same] at ha
          cases ha
        rwa [upd_ne this] at ha
      exact k _ _ _ (Ext.new e (fresh_back q3 hFa) (q3.trans ((Ex.new hv).trans (Ex.new ha))) upd_same) ⟨a, rfl, upd_same⟩
end
end La
set_option Elab.async false
set_option linter.all false
set_option maxRecDepth 100000
set_option maxHeartbeats 4000000
namespace La
open PySem PySem.Spec PyProof.Rows L2 Evl
/-- an object of one's own becomes known -/
theorem Ext.own {H F Hk F' : Hp} {p : Addr} {o : HO} (x : Ext H F Hk F') (hp : F p = none) (hk : Hk p = none) (h : F' p = some o) : Ext H F (upd Hk p o) F' := by
  refine ⟨x.f, x.k.trans (Ex.new hk), fun a u ha => ?_, fun a u ha => ?_⟩
  · by_cases q : a = p
    · subst q
      rw [upd_same] at ha
      rw [h, ha]
    · rw [upd_ne q] at ha
      exact x.s a u ha
  · by_cases q : a = p
    · subst q
      exact .inr hp
    · rw [upd_ne q] at ha
      exact x.n a u ha
section
variable {σ : L2.St} {H F : Hp} {te ta tb tl : TE} {P : VP} {D : Ends} {K : PySem.W.Frag}
/-- xs.append(e), xs one's own -/
theorem g_app {p : Addr} {xs : List V} {i : Nat} (e : Ex H F) (hp : F p = some (.lst xs)) (hi : σ[i]? = some (some (.ref p))) (h : Gv te σ H P) (hz : xs.length < 100000)
    (k : ∀ v H' F', Ext H F H' F' → P v H' → D.nx σ (upd F' p (.lst (xs ++ [v])))) : tDrop (tBM K "list" rAppend (tVar i) (tCons te tNil)) D σ F :=
  ⟨.ref p, hi, .inl ⟨rfl, xs, sq_of hp⟩, h F e _ fun v H' F' x hv => ⟨p, xs, v, rfl, rfl, x.f p _ hp, sz_lt hz, k v H' F' x hv⟩⟩
theorem gv_pair {l : List Nat} {m : Nat} (ha : Gv ta σ H (NL l)) (hb : ∀ H1, Ex H H1 → Gv tb σ H1 (isN m)) : Gv (tTup (tCons ta (tCons tb tNil))) σ H (PR (l, m)) := fun F e Q q =>
  ha F e _ fun v H1 F1 x ⟨b, hv, hl⟩ => hb H1 x.k F1 x.s _ fun u H2 F2 y hu => by
    obtain rfl : u = nv m := hu
    refine ⟨by show 2 ≤ sizeLine; decide, fun t ht => ?_⟩
    subst hv
    have z := (x.trans y).trans (Ext.new y.s ht (Ex.new ht) (upd_same (o := .tup [.ref b, nv m])))
    have e2 : Ex H2 (upd H2 t (.tup [.ref b, nv m])) := Ex.new (fresh_back y.s ht)
    exact q _ _ _ z ⟨t, b, rfl, upd_same, e2 b _ (y.k b _ hl)⟩
theorem gv_cat {l m : List Nat} (ha : Gv ta σ H (NL l)) (hb : ∀ H1, Ex H H1 → Gv tb σ H1 (NL m)) (hz : l.length + m.length ≤ 100000) : Gv (tOp rCat ta tb) σ H (NL (l ++ m)) := fun F e Q q =>
  ha F e _ fun v H1 F1 x ⟨a, hv, hl⟩ => hb H1 x.k F1 x.s _ fun u H2 F2 y ⟨b, hu, hm⟩ => by
    refine ⟨a, b, _, _, hv, hu, y.s a _ (y.k a _ hl), y.s b _ hm, by rw [List.length_map, List.length_map]; exact sz_of hz, fun p hp => ?_⟩
    rw [← List.map_append]
    exact q _ _ _ ((x.trans y).trans (Ext.new y.s hp (Ex.new hp) upd_same)) ⟨p, rfl, upd_same⟩
theorem gv_list1 {n : Nat} (ha : Gv ta σ H (isN n)) : Gv (tLst (tCons ta tNil)) σ H (NL [n]) := gv_nl (gv_lst (R := isN) (xs := [n]) (ga_one ha) (by show 1 ≤ 100000; decide))
theorem gv_list0 : Gv (tLst tNil) σ H (NL []) := gv_nl (gv_lst (R := isN) (xs := []) ga_nil (by show 0 ≤ 100000; decide))
end
theorem and_pow (m n : Nat) : Builtin.bitAnd (m : Int) (1 * 2 ^ (n : Int).toNat) = ((m &&& 2 ^ n : Nat) : Int) := by
  have e : (1 * 2 ^ (n : Int).toNat : Int) = ((2 ^ n : Nat) : Int) := by
    rw [Int.one_mul, Int.toNat_natCast]
    exact (Int.natCast_pow 2 n).symm
  rw [e, bitAnd_pp (Int.natCast_nonneg _) (Int.natCast_nonneg _)]
  rfl
theorem or_nat (m n : Nat) : Builtin.bitOr (m : Int) (n : Int) = ((m ||| n : Nat) : Int) := by
  rw [Bits.bitOr_pp (Int.natCast_nonneg _) (Int.natCast_nonneg _)]
  rfl
theorem dark_iff (m n : Nat) : ((m &&& 2 ^ n : Nat) : Int) = 0 ↔ m.testBit n = false := by
  rw [show (0 : Int) = ((0 : Nat) : Int) from rfl, Int.natCast_inj]
  constructor
  · intro h
    have := congrArg (Nat.testBit · n) h
    simpa using this
  · intro h
    apply Nat.eq_of_testBit_eq
    intro i
    rw [Nat.testBit_and, Nat.testBit_two_pow, Nat.zero_testBit]
    by_cases e : n = i
    · subst e
      simp [h]
    · simp [e]
section
variable {P : Program} {w : World} {K : PySem.W.Frag} {mg : Str → Option Value} {base : Heap}
/-! ### with_and_without -/
abbrev spWith : Sp := SpF (fun (a : List (List Nat × Nat) × Nat × Nat) => a.1.length ≤ 40000 ∧ a.2.1 ≤ 1000 ∧ ∀ p ∈ a.1, p.1.length ≤ 1000) (fun a => [Lst PR a.1, isN a.2.1, isN a.2.2]) (fun a => Lst PR (withAnd a.2.1 a.2.2 a.1))
theorem gv_with {σ : L2.St} {H : Hp} {ta : TA} {B : List (List Nat × Nat)} {c m : Nat} (hz : B.length ≤ 40000) (hx : c ≤ 1000) (hl : ∀ p ∈ B, p.1.length ≤ 1000) (h : GvA ta σ H [Lst PR B, isN c, isN m]) : Gv (tCall spWith [] E0 ta) σ H (Lst PR (withAnd c m B)) :=
  gv_call (C := fun (a : List (List Nat × Nat) × Nat × Nat) => a.1.length ≤ 40000 ∧ a.2.1 ≤ 1000 ∧ ∀ p ∈ a.1, p.1.length ≤ 1000) (Ps := fun a => [Lst PR a.1, isN a.2.1, isN a.2.2]) (B := fun a => Lst PR (withAnd a.2.1 a.2.2 a.1)) (B, c, m) ⟨hz, hx, hl⟩ h
abbrev nWith : List Str := ["begun", "cell", "light", "further", "lamps", "lit"]
theorem scWith : FnScope nWith ["begun", "cell", "light"] (defScope (top 11)) := ⟨rfl, rfl, rfl, by decide +kernel, rfl, by decide +kernel, by decide +kernel⟩
theorem withAnd_more {c m i : Nat} {B : List (List Nat × Nat)} {q : List Nat × Nat} (h : B[i]? = some q) : withAnd c m (B.take (i + 1)) = withAnd c m (B.take i) ++ (if q.2.testBit c = false then [(q.1 ++ [c], q.2 ||| m), q] else [q]) := by
  unfold withAnd
  rw [take_snoc h, List.flatMap_append]
  simp
theorem ok_with {f : Addr} {fd : FuncData} (Fn : Fun K "with_and_without" "with_and_without" (top 11) f fd) (T : Blt mg) : FnOk P w K mg base CX0 1 f fd ["begun", "cell", "light"] spWith := by
  refine Fn.ok scWith (fun vs H Q E h => ?_) (fun cdv A outer s F vs Q E hr h => ?_)
  · obtain ⟨a, H0, _, _, hp, _⟩ := h
    exact allP_len hp
  · obtain ⟨⟨B, c, m⟩, H, ⟨hz, hx, hl⟩, e, hp, k⟩ := h
    replace hz : B.length ≤ 40000 := hz
    replace hx : c ≤ 1000 := hx
    replace hl : ∀ p ∈ B, p.1.length ≤ 1000 := hl
    obtain ⟨v1, v2, v3, rfl, h1, h2, h3⟩ := allP3 hp
    obtain rfl : v2 = nv c := h2
    obtain rfl : v3 = nv m := h3
    refine ⟨_, pss_cons (ps_set (i := 3) scWith.nd rfl (Or.inl rfl) (pe_lst pa_nil))
      (pss_cons (ps_for PassesOwn.never rfl (pi_list (pv 0)) (pg_tup rfl (pgs_cons (pg_name (i := 4) scWith.nd rfl (Or.inl rfl)) (pgs_cons (pg_name (i := 5) scWith.nd rfl (Or.inl rfl)) pgs_nil)))
        (pss_cons (ps_if (pt_cmpR op_eq (pe_op op_and (pv 5) (pe_op op_shl pe_int (pv 1))) pe_int (nomark _))
            (pss_one (ps_expr (pe_bm PySem.F.plainAttrs_list PySem.F.slot_list_append PySem.F.type_list_append mt_append (pv 3) (pa_cons (pe_tup (pa_cons (pe_op op_cat (pv 4) (pe_lst (pa_cons (pv 1) pa_nil))) (pa_cons (pe_op op_or (pv 5) (pv 2)) pa_nil))) pa_nil)))) pss_nil)
          (pss_one (ps_expr (pe_bm PySem.F.plainAttrs_list PySem.F.slot_list_append PySem.F.type_list_append mt_append (pv 3) (pa_cons (pe_tup (pa_cons (pv 4) (pa_cons (pv 5) pa_nil))) pa_nil))))))
      (pss_one (ps_ret (pv 3)))), ?_⟩
    refine s_asgL (el_lst ea_nil (by show 0 ≤ 100000; decide)) fun p F0 hp0 e0 hF0 => ?_
    have hpH : H p = none := fresh_back e hp0
    refine g_seqFor (H := H) (S := PR) (xs := B) (e.trans e0) (gv_var rfl h1)
      (fun H1 i σ' F' => ∃ v4 v5 Hk acc, σ' = [some v1, some (nv c), some (nv m), some (.ref p), v4, v5] ∧ Ext H F Hk F' ∧ Ex H1 Hk ∧ Hk p = none ∧ F' p = some (.lst acc) ∧ Paired (fun x u => PR x u Hk) (withAnd c m (B.take i)) acc)
      (fun H1 F1 x1 => ⟨none, none, H1, [], rfl, (Ext.same e e0).trans x1, Ex.refl _, x1.out hF0 hpH, x1.f p _ hF0, .nil⟩) (fun H1 i σ' F' ⟨_, _, _, _, _, x, h, _⟩ => h.trans x.s) ?_ ?_
    · rintro H1 F1 i q u σ' F' x1 hq ⟨t, b, rfl, ht, hb⟩ ⟨a4, a5, Hk, acc, rfl, q1, q2, q3, q4, q5⟩
      obtain ⟨l, n⟩ := q
      have hi := (List.getElem?_eq_some_iff.mp hq).1
      have hln : l.length ≤ 1000 := hl _ (List.mem_of_getElem? hq)
      have hacc : acc.length ≤ 2 * i := by
        rw [← pr_len q5]
        refine Nat.le_trans (withAnd_length c m _) ?_
        rw [List.length_take]
        have := Nat.min_le_left i B.length
        omega
      have hbk : Hk b = some (.lst (l.map nv)) := q2 b _ hb
      refine ⟨t, _, rfl, st_of (q1.s t _ (q2 t _ ht)), rfl, _, _, rfl, _, _, rfl, rfl, ?_⟩
      show tSeq _ _ _ [some v1, some (nv c), some (nv m), some (.ref p), some (.ref b), some (nv n)] F'
      refine g_seqIf (H := Hk) (b := !n.testBit c) q1.s (et_is (et_gv (gv_op (gv_I0 (gv_var rfl rfl) (gv_I gv_c (gv_var rfl rfl) ⟨by omega, by omega, by decide⟩)) gv_c (rv_eq rfl))) ?_) (fun hbt F3 e3 => ?_) (fun hbt F3 e3 => ?_)
      · rw [and_pow]
        have : decide (V.int ((n &&& 2 ^ c : Nat) : Int) = V.int 0) = decide (((n &&& 2 ^ c : Nat) : Int) = 0) := dec_iff ⟨fun h => by injection h, fun h => by rw [h]⟩
        rw [this, dec_iff (dark_iff n c)]
        cases n.testBit c <;> rfl
      · have hnb : n.testBit c = false := by simpa using hbt
        have q4' := e3 p _ q4
        refine g_app (H := Hk) (P := PR (l ++ [c], n ||| m)) (q1.s.trans e3) q4' rfl (gv_pair (gv_cat (gv_var rfl ⟨b, rfl, hbk⟩) (fun _ _ => gv_list1 (gv_var rfl rfl)) (by simp; omega)) fun _ _ => ?_) (by omega) fun v H4 F4 x4 hv => ?_
        · have := gv_I0 (σ := [some v1, some (nv c), some (nv m), some (.ref p), some (.ref b), some (nv n)]) (ta := tVar 5) (tb := tVar 2) (H := ‹Hp›) (g := fun i j => .int (Builtin.bitOr i j)) (i := (n : Int)) (j := (m : Int)) (gv_var rfl rfl) (gv_var rfl rfl)
          rw [or_nat] at this
          exact this
        · have o4 := x4.out q4' q3
          have x5 := (q1.trans (Ext.same q1.s e3)).trans x4
          have y5 := x5.mut (o := .lst (acc ++ [v])) hp0 o4
          refine g_app (H := H4) (P := PR (l, n)) y5.s upd_same rfl (gv_pair (gv_var rfl ⟨b, rfl, x4.k b _ hbk⟩) fun _ _ => gv_var rfl rfl) (by simp; omega) fun v' H6 F6 x6 hv' => ?_
          have o6 := x6.out upd_same o4
          refine ⟨_, _, H6, _, rfl, (y5.trans x6).mut hp0 o6, (q2.trans x4.k).trans x6.k, o6, upd_same, ?_⟩
          rw [withAnd_more hq, if_pos hnb]
          have pp := pr_snoc (F := fun x u => PR x u H6) hv' (pr_snoc (F := fun x u => PR x u H6) (Stb.ex x6.k hv) (paired_ex (x4.k.trans x6.k) q5))
          simpa using pp
      · have hnb : n.testBit c = true := by simpa using hbt
        have q4' := e3 p _ q4
        have x5 := q1.trans (Ext.same q1.s e3)
        show tDrop _ _ [some v1, some (nv c), some (nv m), some (.ref p), some (.ref b), some (nv n)] _
        refine g_app (H := Hk) (P := PR (l, n)) x5.s q4' rfl (gv_pair (gv_var rfl ⟨b, rfl, hbk⟩) fun _ _ => gv_var rfl rfl) (by omega) fun v' H6 F6 x6 hv' => ?_
        have o6 := x6.out q4' q3
        refine ⟨_, _, H6, _, rfl, (x5.trans x6).mut hp0 o6, q2.trans x6.k, o6, upd_same, ?_⟩
        rw [withAnd_more hq, if_neg (by rw [hnb]; decide)]
        exact pr_snoc (F := fun x u => PR x u H6) hv' (paired_ex x6.k q5)
    · rintro H1 F1 σ' F' x1 ⟨a4, a5, Hk, acc, rfl, q1, q2, q3, q4, q5⟩
      rw [List.take_length] at q5
      refine ⟨_, rfl, k _ _ F' (q1.own hp0 q3 q4) ⟨p, acc, rfl, upd_same, paired_ex (Ex.new q3) q5⟩⟩
end
end La
set_option Elab.async false
set_option linter.all false
set_option maxRecDepth 100000
set_option maxHeartbeats 4000000
namespace La
open PySem PySem.Spec PyProof.Rows L2 Evl
theorem freeM_len {P : Nat → Bool} {r c : Nat} (hz : Size r c) : (freeM P r c).length ≤ 16 := by
  unfold freeM
  refine Nat.le_trans (List.length_filter_le _ _) ?_
  rw [List.length_range]
  exact Nat.mul_le_mul hz.r4 hz.c4
theorem freeM_lt {P : Nat → Bool} {r c x : Nat} (h : x ∈ freeM P r c) : x < r * c := by
  unfold freeM at h
  rw [List.mem_filter, List.mem_range] at h
  exact h.1
theorem begun_len {P : Nat → Bool} {r c : Nat} (F : List Nat) : (begunOf P r c F).length ≤ 2 ^ F.length := by
  have := fold_length P r c F [([], 0)]
  rw [show ([([], 0)] : List (List Nat × Nat)).length = 1 from rfl, Nat.mul_one] at this
  exact this
theorem nv_mul (r c : Nat) : V.int ((r : Int) * (c : Int)) = nv (r * c) := by
  show _ = V.int ((r * c : Nat) : Int)
  rw [Int.natCast_mul]
theorem begun_more {P : Nat → Bool} {r c i x : Nat} {F : List Nat} (h : F[i]? = some x) : begunOf P r c (F.take (i + 1)) = withAnd x (bitsOf (litFrom P r c x)) (begunOf P r c (F.take i)) := by
  unfold begunOf
  rw [take_snoc h, List.foldl_append]
  rfl
theorem withAnd_short {c m N : Nat} {B : List (List Nat × Nat)} (h : ∀ p ∈ B, p.1.length ≤ N) : ∀ p ∈ withAnd c m B, p.1.length ≤ N + 1 := by
  intro p hp
  rcases mem_withAnd.mp hp with hp | ⟨q, hq, _, rfl⟩
  · have := h p hp
    omega
  · have := h q hq
    simp
    omega
theorem begun_short {P : Nat → Bool} {r c : Nat} : ∀ (F : List Nat) (N : Nat) (B : List (List Nat × Nat)), (∀ p ∈ B, p.1.length ≤ N) → ∀ p ∈ F.foldl (fun b x => withAnd x (bitsOf (litFrom P r c x)) b) B, p.1.length ≤ N + F.length
  | [], N, B, h => by simpa using h
  | x :: F, N, B, h => by
    intro p hp
    rw [List.foldl_cons] at hp
    have := begun_short F (N + 1) _ (withAnd_short h) p hp
    rw [List.length_cons]
    omega
theorem pr_ref {H F : Hp} {q : List Nat × Nat} {v : V} (e : Ex H F) (h : PR q v H) : ∃ t b, v = .ref t ∧ F t = some (.tup [.ref b, nv q.2]) ∧ H b = some (.lst (q.1.map nv)) := by
  obtain ⟨t, b, h1, h2, h3⟩ := h
  exact ⟨t, b, h1, e t _ h2, h3⟩
section
variable {P : Program} {w : World} {K : PySem.W.Frag} {mg : Str → Option Value} {base : Heap}
/-! ### all_settings -/
abbrev spAll : Sp := SpF (fun (a : Nat × Nat × (Nat → Bool)) => Size a.1 a.2.1) (fun a => [isN a.1, isN a.2.1, PD a.2.2]) (fun a => NLL (allSettings a.2.2 a.1 a.2.1))
theorem gv_allSettings {σ : L2.St} {H : Hp} {ta : TA} {r c : Nat} {B : Nat → Bool} (hz : Size r c) (h : GvA ta σ H [isN r, isN c, PD B]) : Gv (tCall spAll [] E0 ta) σ H (NLL (allSettings B r c)) :=
  gv_call (C := fun (a : Nat × Nat × (Nat → Bool)) => Size a.1 a.2.1) (Ps := fun a => [isN a.1, isN a.2.1, PD a.2.2]) (B := fun a => NLL (allSettings a.2.2 a.1 a.2.1)) (r, c, B) hz h
abbrev nAll : List Str := ["rows", "columns", "pillars", "cell", "free", "begun", "everything", "lamps", "lit"]
theorem scAll : FnScope nAll ["rows", "columns", "pillars"] (defScope (top 12)) := ⟨rfl, rfl, rfl, by decide +kernel, rfl, by decide +kernel, by decide +kernel⟩
theorem ok_all {f : Addr} {fd : FuncData} (Fn : Fun K "all_settings" "all_settings" (top 12) f fd) (T : Blt mg) (HL : Has P w K mg base "lit_from" 2 ["rows", "columns", "pillars", "cell"] spLitFrom)
    (HB : Has P w K mg base "bits_of" 1 ["cells"] spBits) (HW : Has P w K mg base "with_and_without" 1 ["begun", "cell", "light"] spWith) : FnOk P w K mg base CX0 3 f fd ["rows", "columns", "pillars"] spAll := by
  refine Fn.ok scAll (fun vs H Q E h => ?_) (fun cdv A outer s F vs Q E hr h => ?_)
  · obtain ⟨a, H0, _, _, hp, _⟩ := h
    exact allP_len hp
  · obtain ⟨⟨r, c, B⟩, H, hz, e, hp, k⟩ := h
    replace hz : Size r c := hz
    obtain ⟨v1, v2, v3, rfl, h1, h2, h3⟩ := allP3 hp
    have hr1 : Room 1 _ := hr.mono (by decide)
    refine ⟨_, pss_cons (ps_setLc (i := 4) (own := [("cell", 3)]) (g := gName 3) (tt := tB (tDNotIn (tVar 3) (tVar 2))) (te := tVar 3) rfl scAll.nd rfl rfl (sw_true rfl rfl rfl (by decide +kernel)) (pi_range1 (by rfl) T.range (pa_cons (pe_op op_mul (pv 0) (pv 1)) pa_nil)) (blkOk_by (N := nAll) (sc := defScope (top 12)) (by decide +kernel))
        (fun _ _ _ _ _ => pg_name (i := 3) scAll.nd rfl (Or.inl rfl)) (fun _ _ _ _ _ => pts_one (pt_cmp (pc_dnotin (hu_of hr) (pv 3) (pv 2)))) (fun _ _ _ _ _ => pv 3))
      (pss_cons (ps_set (i := 5) scAll.nd rfl (Or.inl rfl) (pe_lst (pa_cons (pe_tup (pa_cons (pe_lst pa_nil) (pa_cons pe_int pa_nil))) pa_nil)))
      (pss_cons (ps_for PassesOwn.never rfl (pi_list (pv 4)) (pg_name (i := 3) scAll.nd rfl (Or.inl rfl))
        (pss_one (ps_set (i := 5) scAll.nd rfl (Or.inl rfl) (pe_has HW hr1 (by rfl) (pa_cons (pv 5) (pa_cons (pv 3) (pa_cons (pe_has HB hr1 (by rfl) (pa_cons (pe_has HL hr (by rfl) (pa_cons (pv 0) (pa_cons (pv 1) (pa_cons (pv 2) (pa_cons (pv 3) pa_nil))))) pa_nil)) pa_nil)))))))
      (pss_cons (ps_set (i := 6) scAll.nd rfl (Or.inr rfl) (pe_has HB hr1 (by rfl) (pa_cons (pv 4) pa_nil)))
      (pss_one (ps_ret (pe_lc (own := [("lamps", 7), ("lit", 8)]) (g := gTup K 2 (gCons (gName 7) (gCons (gName 8) gNil))) (tt := tTest (tOp rEq (tVar 8) (tVar 6))) (te := tVar 7) rfl scAll.nd (pi_list (pv 5)) (blkOk_by (N := nAll) (sc := defScope (top 12)) (by decide +kernel))
        (fun _ _ _ _ _ => pg_tup rfl (pgs_cons (pg_name (i := 7) scAll.nd rfl (Or.inl rfl)) (pgs_cons (pg_name (i := 8) scAll.nd rfl (Or.inl rfl)) pgs_nil))) (fun _ _ _ _ _ => pts_one (pt_cmpR op_eq (pv 8) (pv 6) (nomark _))) (fun _ _ _ _ _ => pv 7))))))), ?_⟩
    obtain rfl : v1 = nv r := h1
    obtain rfl : v2 = nv c := h2
    have hz1 := hz.r4
    have hz2 := hz.c4
    have h16 : r * c ≤ 16 := Nat.mul_le_mul hz1 hz2
    have hfl := freeM_len (P := B) hz
    have hpow : 2 ^ (freeM B r c).length ≤ 65536 := Nat.pow_le_pow_right (by decide) hfl (n := 2)
    refine g_seqAsg e (P := NL (freeM B r c)) (gv_lcRF (n := r * c) (fun x => !B x) (ea_cons (ev_is (ev_op (ev_var rfl) (ev_var rfl) (rv_I (.inl ⟨by omega, by omega⟩))) (nv_mul r c)) ea_nil) (by omega) (fun x => rfl) (fun y H1 hy e1 => et_gvB (gv_dnotin (gv_var rfl rfl) fun H2 e2 => gv_var rfl (Stb.ex (e1.trans e2) h3))) (fun x => rfl)) fun v4 H4 F4 x4 p4 => ?_
    refine g_seqAsg x4.s (P := Lst PR [([], 0)]) (gv_lst (xs := [([], 0)]) (ga_one (gv_pair (m := 0) gv_list0 fun _ _ => gv_c)) (by show 1 ≤ 100000; decide)) fun v5 H5 F5 x5 p5 => ?_
    refine g_seqFor (H := H5) (S := isN) (xs := freeM B r c) x5.s (gv_var rfl (nl_lst.mp (Stb.ex x5.k p4)))
      (fun H1 i σ' F' => ∃ v3' v5 Hk, σ' = [some (nv r), some (nv c), some v3, v3', some v4, some v5, none, none, none] ∧ Ext H5 F5 Hk F' ∧ Ex H1 Hk ∧ Lst PR (begunOf B r c ((freeM B r c).take i)) v5 Hk)
      (fun H1 F1 x1 => ⟨none, v5, H1, rfl, x1, Ex.refl _, Stb.ex x1.k p5⟩) (fun H1 i σ' F' ⟨_, _, _, _, x, h, _⟩ => h.trans x.s) ?_ ?_
    · rintro H1 F1 i x u σ' F' x1 hx hu ⟨a3, a5, Hk, rfl, q1, q2, q3⟩
      obtain rfl : u = nv x := hu
      have hxm := List.mem_of_getElem? hx
      have hx16 := lt16 hz (freeM_lt hxm)
      have hi := (List.getElem?_eq_some_iff.mp hx).1
      have hbl := begun_len (P := B) (r := r) (c := c) ((freeM B r c).take i)
      have hp2 : 2 ^ ((freeM B r c).take i).length ≤ 2 ^ 15 := Nat.pow_le_pow_right (by decide) (by rw [List.length_take]; omega)
      have hsh : ∀ p ∈ begunOf B r c ((freeM B r c).take i), p.1.length ≤ 1000 := fun p hp => by
        have := begun_short (P := B) (r := r) (c := c) ((freeM B r c).take i) 0 [([], 0)] (by simp) p hp
        rw [List.length_take] at this
        omega
      refine g_asg (H := Hk) (P := Lst PR (withAnd x (bitsOf (litFrom B r c x)) (begunOf B r c ((freeM B r c).take i)))) q1.s (gv_with (by omega) (by omega) hsh (ga_cons (gv_var rfl q3) fun _ e1 => ga_cons (gv_var rfl rfl) fun _ e2 => ga_one (gv_bits ?_ ?_ (ga_one (gv_litFrom hz (by omega) (ga_cons (gv_var rfl rfl) fun _ e3 => ga_cons (gv_var rfl rfl) fun _ e4 => ga_cons (gv_var rfl (Stb.ex ((((((x4.k.trans x5.k).trans q1.k).trans e1).trans e2).trans e3).trans e4) h3)) fun _ _ => ga_one (gv_var rfl rfl))))))) fun v6 H6 F6 x6 p6 => ?_
      · have := litFrom_length (P := B) (x := x) hz (by omega)
        omega
      · intro y hy
        have := litFrom_lt16 B hz (freeM_lt hxm) y hy
        omega
      · refine ⟨_, v6, H6, rfl, q1.trans x6, q2.trans x6.k, ?_⟩
        rw [begun_more hx]
        exact p6
    · rintro H1 F1 σ' F' x1 ⟨a3, a5, Hk, rfl, q1, q2, q3⟩
      rw [List.take_length] at q3
      have p4' := Stb.ex (x5.k.trans q1.k) p4
      have hbl := begun_len (P := B) (r := r) (c := c) (freeM B r c)
      refine g_seqAsg (H := Hk) q1.s (P := isN (bitsOf (freeM B r c))) (gv_bits (by omega) (fun x hx => by have := lt16 hz (freeM_lt hx); omega) (ga_one (gv_var rfl p4'))) fun v6 H6 F6 x6 p6 => ?_
      obtain rfl : v6 = nv (bitsOf (freeM B r c)) := p6
      refine g_ret x6.s (P := NLL (allSettings B r c)) (gv_lcG (S := PR) (R := NL) (fun p => p.2 == bitsOf (freeM B r c)) (fun p => p.1) (xs := begunOf B r c (freeM B r c)) (fun q Hq σ2 => ∃ b, Hq b = some (.lst (q.1.map nv)) ∧ σ2 = [some (nv r), some (nv c), some v3, a3, some v4, some a5, some (nv (bitsOf (freeM B r c))), some (.ref b), some (nv q.2)])
        (gv_var rfl (Stb.ex x6.k q3)) (by omega) ?_ ?_ ?_) fun v H' F2 x p => k v H' F2 (((((x4.trans x5).trans q1).trans x6).trans x)) p
      · intro q x Hq F7 hq e7 Q' hQ
        obtain ⟨t, b, rfl, ht, hb⟩ := pr_ref e7 hq
        exact ⟨t, _, rfl, st_of ht, rfl, _, _, rfl, _, _, rfl, rfl, hQ _ rfl ⟨b, hb, rfl⟩⟩
      · rintro q σ2 H7 H8 _ _ e8 ⟨b, hb, rfl⟩
        refine et_is (et_gv (gv_op (gv_var rfl rfl) (gv_var rfl rfl) (rv_eq rfl))) ?_
        rw [nv_eq]
        by_cases h : q.2 = bitsOf (freeM B r c) <;> simp [h]
      · rintro q σ2 H7 H8 _ _ _ e8 ⟨b, hb, rfl⟩
        exact gv_var rfl ⟨b, rfl, e8 b _ hb⟩
end
end La
set_option Elab.async false
set_option linter.all false
set_option maxRecDepth 100000
set_option maxHeartbeats 4000000
namespace La
open PySem PySem.Spec PyProof.Rows L2 Evl
section
variable {P : Program} {w : World} {K : PySem.W.Frag} {mg : Str → Option Value} {base : Heap}
/-! ### meets_all -/
abbrev spMeets : Sp := SpF (fun (a : List Nat × List (List Nat)) => a.1.length ≤ 100000) (fun a => [NL a.1, NLL a.2]) (fun a => isB (meets a.1 a.2))
theorem gv_meets {σ : L2.St} {H : Hp} {ta : TA} {c : List Nat} {gs : List (List Nat)} (hz : c.length ≤ 100000) (h : GvA ta σ H [NL c, NLL gs]) : Gv (tCall spMeets [] E0 ta) σ H (isB (meets c gs)) :=
  gv_call (C := fun (a : List Nat × List (List Nat)) => a.1.length ≤ 100000) (Ps := fun a => [NL a.1, NLL a.2]) (B := fun a => isB (meets a.1 a.2)) (c, gs) hz h
abbrev nMeets : List Str := ["choice", "groups", "group", "cell"]
theorem scMeets : FnScope nMeets ["choice", "groups"] (defScope (top 1)) := ⟨rfl, rfl, rfl, by decide +kernel, rfl, by decide +kernel, by decide +kernel⟩
theorem ok_meets {f : Addr} {fd : FuncData} (Fn : Fun K "meets_all" "meets_all" (top 1) f fd) (T : Blt mg) : FnOk P w K mg base CX0 1 f fd ["choice", "groups"] spMeets := by
  refine Fn.ok scMeets (fun vs H Q E h => ?_) (fun cdv A outer s F vs Q E hr h => ?_)
  · obtain ⟨a, H0, _, _, hp, _⟩ := h
    exact allP_len hp
  · obtain ⟨⟨c, gs⟩, H, hz, e, hp, k⟩ := h
    obtain ⟨v1, v2, rfl, h1, h2⟩ := allP2 hp
    refine ⟨_, pss_cons (ps_for PassesOwn.never rfl (pi_list (pv 1)) (pg_name (i := 2) scMeets.nd rfl (Or.inr rfl))
        (pss_one (ps_if (pt_not (pt_val (pe_callB (cr_any rfl) (by rfl) T.any boot_any (pa_cons (pe_lc (own := [("cell", 3)]) (g := gName 3) (tt := tYes) (te := tOp (rIn K false) (tVar 3) (tVar 2)) rfl scMeets.nd (pi_list (pv 0)) (blkOk_by (N := nMeets) (sc := defScope (top 1)) (by decide +kernel))
          (fun _ _ _ _ _ => pg_name (i := 3) scMeets.nd rfl (Or.inl rfl)) (fun _ _ _ _ _ => pts_nil) (fun _ _ _ _ _ => pe_cmpR op_in_seq (pv 3) (pv 2) (by rfl))) pa_nil)))) (pss_one (ps_ret pe_bl)) pss_nil)))
      (pss_one (ps_ret pe_bl)), ?_⟩
    refine g_seqFor (H := H) (S := NL) (xs := gs) e (gv_var rfl h2)
      (fun H1 i σ' F' => ∃ v3 v4, σ' = [some v1, some v2, v3, v4] ∧ Ex H1 F' ∧ Ex H H1 ∧ Ex F F' ∧ meets c (gs.take i) = true)
      (fun H1 F1 x1 => ⟨none, none, rfl, x1.s, x1.k, x1.f, rfl⟩) (fun H1 i σ' F' ⟨_, _, _, h, _⟩ => h) ?_ ?_
    · rintro H1 F1 i g u σ' F' x1 hg hu ⟨a3, a4, rfl, q1, q2, q3, q4⟩
      show tIfS _ _ _ _ [some v1, some v2, some u, a4] F'
      refine g_if (H := H1) (b := !c.any fun x => decide (x ∈ g)) q1 (et_not (et_gvB (Gv.imp (gv_any (gv_lcB (S := isN) (fun x => decide (x ∈ g)) (gv_var rfl (nl_lst.mp (Stb.ex q2 h1))) hz (fun x => rfl) fun y x H2 hy e2 hs => gv_in (gv_var rfl hs) fun H3 e3 => gv_var rfl (Stb.ex (e2.trans e3) hu))) fun v H2 _ p => ?_))) (fun hb F3 e3 => ?_) (fun hb F3 e3 => ?_)
      · rw [List.any_map] at p
        exact p
      · refine k _ H F3 (Ext.same e (q3.trans e3)) ?_
        show V.bl false = V.bl (meets c gs)
        rw [show meets c gs = false from ?_]
        unfold meets
        rw [List.all_eq_false]
        exact ⟨g, List.mem_of_getElem? hg, by simpa using hb⟩
      · refine ⟨_, _, rfl, q1.trans e3, q2, q3.trans e3, ?_⟩
        unfold meets at q4 ⊢
        rw [take_snoc hg, List.all_append, q4]
        simpa using hb
    · rintro H1 F1 σ' F' x1 ⟨a3, a4, rfl, q1, q2, q3, q4⟩
      rw [List.take_length] at q4
      refine k _ H F' (Ext.same e q3) ?_
      show V.bl true = V.bl (meets c gs)
      rw [q4]
/-! ### with_one_more -/
abbrev spMore : Sp := SpF (fun (a : List Nat × List (List Nat)) => (a.2.flatMap (ext1 a.1)).length < 100000 ∧ ∀ c ∈ a.2, c.length ≤ 1000) (fun a => [NL a.1, NLL a.2]) (fun a => NLL (a.2.flatMap (ext1 a.1)))
theorem gv_more {σ : L2.St} {H : Hp} {ta : TA} {l : List Nat} {cs : List (List Nat)} (hz : (cs.flatMap (ext1 l)).length < 100000) (hc : ∀ c ∈ cs, c.length ≤ 1000) (h : GvA ta σ H [NL l, NLL cs]) : Gv (tCall spMore [] E0 ta) σ H (NLL (cs.flatMap (ext1 l))) :=
  gv_call (C := fun (a : List Nat × List (List Nat)) => (a.2.flatMap (ext1 a.1)).length < 100000 ∧ ∀ c ∈ a.2, c.length ≤ 1000) (Ps := fun a => [NL a.1, NLL a.2]) (B := fun a => NLL (a.2.flatMap (ext1 a.1))) (l, cs) ⟨hz, hc⟩ h
abbrev nMore : List Str := ["cells", "choices", "further", "choice", "cell"]
theorem scMore : FnScope nMore ["cells", "choices"] (defScope (top 2)) := ⟨rfl, rfl, rfl, by decide +kernel, rfl, by decide +kernel, by decide +kernel⟩
theorem ext1_more {l ch : List Nat} {j y : Nat} (h : l[j]? = some y) : ext1 (l.take (j + 1)) ch = ext1 (l.take j) ch ++ (if okAfter ch y = true then [ch ++ [y]] else []) := by
  unfold ext1
  rw [take_snoc h, List.filter_append, List.map_append]
  congr 1
  by_cases hy : okAfter ch y = true
  · simp [hy]
  · simp [hy]
theorem part_len {l : List Nat} {cs : List (List Nat)} {ch : List Nat} {i j : Nat} (h : cs[i]? = some ch) : ((cs.take i).flatMap (ext1 l) ++ ext1 (l.take j) ch).length ≤ (cs.flatMap (ext1 l)).length := by
  have e : cs = cs.take i ++ ch :: cs.drop (i + 1) := by
    obtain ⟨hi, e⟩ := List.getElem?_eq_some_iff.mp h
    rw [← e, List.getElem_cons_drop, List.take_append_drop]
  have e2 : (cs.flatMap (ext1 l)).length = ((cs.take i).flatMap (ext1 l)).length + ((ext1 l ch).length + ((cs.drop (i + 1)).flatMap (ext1 l)).length) := by
    conv => lhs; rw [e]
    rw [List.flatMap_append, List.flatMap_cons, List.length_append, List.length_append]
  have e3 : (ext1 (l.take j) ch).length ≤ (ext1 l ch).length := by
    unfold ext1
    rw [List.length_map, List.length_map]
    exact ((List.take_sublist j l).filter _).length_le
  rw [List.length_append, e2]
  omega
theorem ok_more {f : Addr} {fd : FuncData} (Fn : Fun K "with_one_more" "with_one_more" (top 2) f fd) (T : Blt mg) : FnOk P w K mg base CX0 1 f fd ["cells", "choices"] spMore := by
  refine Fn.ok scMore (fun vs H Q E h => ?_) (fun cdv A outer s F vs Q E hr h => ?_)
  · obtain ⟨a, H0, _, _, hp, _⟩ := h
    exact allP_len hp
  · obtain ⟨⟨l, cs⟩, H, ⟨hz, hc⟩, e, hp, k⟩ := h
    replace hz : (cs.flatMap (ext1 l)).length < 100000 := hz
    replace hc : ∀ c ∈ cs, c.length ≤ 1000 := hc
    obtain ⟨v1, v2, rfl, h1, h2⟩ := allP2 hp
    refine ⟨_, pss_cons (ps_set (i := 2) scMore.nd rfl (Or.inl rfl) (pe_lst pa_nil))
      (pss_cons (ps_for PassesOwn.never rfl (pi_list (pv 1)) (pg_name (i := 3) scMore.nd rfl (Or.inl rfl))
        (pss_one (ps_for PassesOwn.never rfl (pi_list (pv 0)) (pg_name (i := 4) scMore.nd rfl (Or.inl rfl))
          (pss_one (ps_if (PW.pt (pw_or (pt_cmpR op_eq (pe_callB call_len_seq (by rfl) T.len boot_len (pa_cons (pv 3) pa_nil)) pe_int (nomark _)) (pw_or1 (pt_cmpR op_gt (pv 4) (pe_ix ix_list (pv 3) (pe_un un_neg pe_int) (fun _ _ => rfl)) (nomark _)))))
            (pss_one (ps_expr (pe_bm PySem.F.plainAttrs_list PySem.F.slot_list_append PySem.F.type_list_append mt_append (pv 2) (pa_cons (pe_op op_cat (pv 3) (pe_lst (pa_cons (pv 4) pa_nil))) pa_nil)))) pss_nil)))))
      (pss_one (ps_ret (pv 2)))), ?_⟩
    refine s_asgL (el_lst ea_nil (by show 0 ≤ 100000; decide)) fun p F0 hp0 e0 hF0 => ?_
    have hpH : H p = none := fresh_back e hp0
    refine g_seqFor (H := H) (S := NL) (xs := cs) (e.trans e0) (gv_var rfl h2)
      (fun H1 i σ' F' => ∃ v3 v4 Hk acc, σ' = [some v1, some v2, some (.ref p), v3, v4] ∧ Ext H F Hk F' ∧ Ex H1 Hk ∧ Hk p = none ∧ F' p = some (.lst acc) ∧ Paired (fun x u => NL x u Hk) ((cs.take i).flatMap (ext1 l)) acc)
      (fun H1 F1 x1 => ⟨none, none, H1, [], rfl, (Ext.same e e0).trans x1, Ex.refl _, x1.out hF0 hpH, x1.f p _ hF0, .nil⟩) (fun H1 i σ' F' ⟨_, _, _, _, _, x, h, _⟩ => h.trans x.s) ?_ ?_
    · rintro H1 F1 i ch u σ' F' x1 hch hu ⟨a3, a4, Hk, acc, rfl, q1, q2, q3, q4, q5⟩
      have hcl := hc ch (List.mem_of_getElem? hch)
      show tFor _ _ _ _ [some v1, some v2, some (.ref p), some u, a4] F'
      refine g_for (H := Hk) (S := isN) (xs := l) q1.s (gv_var rfl (nl_lst.mp (Stb.ex q1.k h1)))
        (fun H2 j σ' F' => ∃ v4 Hk acc, σ' = [some v1, some v2, some (.ref p), some u, v4] ∧ Ext H F Hk F' ∧ Ex H1 Hk ∧ Ex H2 Hk ∧ Hk p = none ∧ F' p = some (.lst acc) ∧ Paired (fun x u => NL x u Hk) ((cs.take i).flatMap (ext1 l) ++ ext1 (l.take j) ch) acc)
        (fun H2 F2 x2 => ⟨a4, H2, acc, rfl, q1.trans x2, q2.trans x2.k, Ex.refl _, x2.out q4 q3, x2.f p _ q4, by rw [List.take_zero, show ext1 [] ch = [] from rfl, List.append_nil]; exact paired_ex x2.k q5⟩) (fun H2 j σ' F' ⟨_, _, _, _, x, _, h, _⟩ => h.trans x.s) ?_ ?_
      · rintro H2 F2 j y z σ' F2' x2 hy hz2 ⟨b4, Hk2, acc2, rfl, w1, w2, w2', w3, w4, w5⟩
        obtain rfl : z = nv y := hz2
        have hu2 := Stb.ex w2 hu
        have hacc : acc2.length < 100000 := by
          rw [← pr_len w5]
          have := part_len (l := l) (j := j) hch
          omega
        show tIfS _ _ _ _ [some v1, some v2, some (.ref p), some u, some (nv y)] F2'
        refine g_if (H := Hk2) (b := okAfter ch y) w1.s ?_ (fun hb F3 e3 => ?_) (fun hb F3 e3 => ?_)
        · have e1 : okAfter ch y = (decide ((ch.length : Int) = 0) || okAfter ch y) := by
            by_cases h : ch = []
            · subst h
              rfl
            · have : ¬ ((ch.length : Int) = 0) := by
                have := List.length_pos_iff.mpr h
                omega
              rw [decide_eq_false this, Bool.false_or]
          rw [e1]
          refine et_or (et_is (et_gv (gv_op (gv_lenN (gv_var rfl hu2)) gv_c (rv_eq rfl))) (dec_iff ⟨fun h => by injection h, fun h => congrArg V.int h⟩)) fun hne => ?_
          have h : ch ≠ [] := fun h => by
            subst h
            simp at hne
          obtain ⟨d, t, rfl⟩ : ∃ d t, ch = d ++ [t] := ⟨ch.dropLast, ch.getLast h, (List.dropLast_concat_getLast h).symm⟩
          obtain ⟨a, rfl, ha⟩ := hu2
          refine et_is (et_gv (gv_I0 (g := fun i j => .bl (decide (j < i))) (i := (y : Int)) (j := (t : Int)) (gv_var rfl rfl) (gv_op (gv_var rfl rfl) (gv_is (ev_un ev_c ru_neg)) (rv_ixL (sq_of ha) ?_)))) ?_
          · rw [map_snoc]
            exact atI_last _ _
          · rw [okAfter_last]
            exact dec_iff (by omega)
        · have q4' := e3 p _ w4
          refine g_app (H := Hk2) (P := NL (ch ++ [y])) (w1.s.trans e3) q4' rfl (gv_cat (gv_var rfl hu2) (fun _ _ => gv_list1 (gv_var rfl rfl)) (by simp; omega)) hacc fun v H4 F4 x4 hv => ?_
          have o4 := x4.out q4' w3
          refine ⟨_, H4, _, rfl, ((w1.trans (Ext.same w1.s e3)).trans x4).mut hp0 o4, w2.trans x4.k, w2'.trans x4.k, o4, upd_same, ?_⟩
          rw [ext1_more hy, if_pos hb, ← List.append_assoc]
          exact pr_snoc (F := fun x u => NL x u H4) hv (paired_ex x4.k w5)
        · refine ⟨_, Hk2, acc2, rfl, w1.trans (Ext.same w1.s e3), w2, w2', w3, e3 p _ w4, ?_⟩
          rw [ext1_more hy, if_neg (by rw [hb]; decide), List.append_nil]
          exact w5
      · rintro H2 F2 σ' F2' x2 ⟨b4, Hk2, acc2, rfl, w1, w2, w2', w3, w4, w5⟩
        refine ⟨_, _, Hk2, acc2, rfl, w1, w2, w3, w4, ?_⟩
        rw [List.take_length] at w5
        rw [take_snoc hch, List.flatMap_append]
        simpa using w5
    · rintro H1 F1 σ' F' x1 ⟨a3, a4, Hk, acc, rfl, q1, q2, q3, q4, q5⟩
      rw [List.take_length] at q5
      exact ⟨_, rfl, k _ _ F' (q1.own hp0 q3 q4) ⟨p, acc, rfl, upd_same, paired_ex (Ex.new q3) q5⟩⟩
end
end La
set_option Elab.async false
set_option linter.all false
set_option maxRecDepth 100000
set_option maxHeartbeats 4000000
namespace La
open PySem PySem.Spec PyProof.Rows L2 Evl
section
variable {P : Program} {w : World} {K : PySem.W.Frag} {mg : Str → Option Value} {base : Heap}
/-! ### fewest_that_meet -/
def NLeast (cells : List Nat) (gs : List (List Nat)) : VP := fun v H => ∃ ch, NL ch v H ∧ Least cells gs ch
instance {cells : List Nat} {gs : List (List Nat)} : Stb (NLeast cells gs) := ⟨fun e ⟨ch, h1, h2⟩ => ⟨ch, Stb.ex e h1, h2⟩⟩
abbrev spFew : Sp := SpF (fun (a : List Nat × List (List Nat)) => Rise a.1 ∧ a.1.length ≤ 16 ∧ meets a.1 a.2 = true) (fun a => [NL a.1, NLL a.2]) (fun a => NLeast a.1 a.2)
theorem gv_few {σ : L2.St} {H : Hp} {ta : TA} {l : List Nat} {gs : List (List Nat)} (hr : Rise l) (hz : l.length ≤ 16) (hm : meets l gs = true) (h : GvA ta σ H [NL l, NLL gs]) : Gv (tCall spFew [] E0 ta) σ H (NLeast l gs) :=
  gv_call (C := fun (a : List Nat × List (List Nat)) => Rise a.1 ∧ a.1.length ≤ 16 ∧ meets a.1 a.2 = true) (Ps := fun a => [NL a.1, NLL a.2]) (B := fun a => NLeast a.1 a.2) (l, gs) ⟨hr, hz, hm⟩ h
abbrev nFew : List Str := ["cells", "groups", "choices", "choice"]
theorem scFew : FnScope nFew ["cells", "groups"] (defScope (top 3)) := ⟨rfl, rfl, rfl, by decide +kernel, rfl, by decide +kernel, by decide +kernel⟩
theorem ok_few {f : Addr} {fd : FuncData} (Fn : Fun K "fewest_that_meet" "fewest_that_meet" (top 3) f fd) (T : Blt mg) (HM : Has P w K mg base "meets_all" 1 ["choice", "groups"] spMeets) (HO : Has P w K mg base "with_one_more" 1 ["cells", "choices"] spMore) : FnOk P w K mg base CX0 2 f fd ["cells", "groups"] spFew := by
  refine Fn.ok scFew (fun vs H Q E h => ?_) (fun cdv A outer s F vs Q E hr h => ?_)
  · obtain ⟨a, H0, _, _, hp, _⟩ := h
    exact allP_len hp
  · obtain ⟨⟨l, gs⟩, H, ⟨hrl, hz, hm⟩, e, hp, k⟩ := h
    replace hrl : Rise l := hrl
    replace hz : l.length ≤ 16 := hz
    replace hm : meets l gs = true := hm
    obtain ⟨v1, v2, rfl, h1, h2⟩ := allP2 hp
    refine ⟨_, pss_cons (ps_set (i := 2) scFew.nd rfl (Or.inl rfl) (pe_lst (pa_cons (pe_lst pa_nil) pa_nil)))
      (pss_one (ps_while PassesOwn.never (pt_val pe_bl)
        (pss_cons (ps_for PassesOwn.never rfl (pi_list (pv 2)) (pg_name (i := 3) scFew.nd rfl (Or.inl rfl)) (pss_one (ps_if (pt_val (pe_has HM hr (by rfl) (pa_cons (pv 3) (pa_cons (pv 1) pa_nil)))) (pss_one (ps_ret (pv 3))) pss_nil)))
          (pss_one (ps_set (i := 2) scFew.nd rfl (Or.inl rfl) (pe_has HO hr (by rfl) (pa_cons (pv 0) (pa_cons (pv 2) pa_nil)))))))), ?_⟩
    refine g_seqAsg e (P := NLL [[]]) (gv_lst (R := NL) (xs := [[]]) (ga_one gv_list0) (by show 1 ≤ 100000; decide)) fun v3 H3 F3 x3 p3 => ?_
    have hpow : 2 ^ l.length ≤ 65536 := Nat.pow_le_pow_right (by decide) hz (n := 2)
    refine s_while (fun m σ' F' => ∃ kk v3 v4 Hk, m + kk = 20 ∧ kk ≤ l.length ∧ σ' = [some v1, some v2, some v3, v4] ∧ Ext H F Hk F' ∧ NLL (comb kk l) v3 Hk ∧ ∀ j, j < kk → ∀ c ∈ comb j l, meets c gs = false) 20 ⟨0, v3, none, H3, rfl, Nat.zero_le _, rfl, x3, by rw [comb_zero]; exact p3, fun j hj => absurd hj (Nat.not_lt_zero j)⟩ ?_
    rintro m σ' F' ⟨kk, v3', v4', Hk, hmk, hkl, rfl, q1, q2, q3⟩
    refine ⟨true, et_gvB gv_c, fun _ F1 e1 => ⟨fun σ' F' => ∃ v3 v4 Hk, kk + 1 ≤ l.length ∧ σ' = [some v1, some v2, some v3, v4] ∧ Ext H F Hk F' ∧ NLL (comb (kk + 1) l) v3 Hk ∧ ∀ j, j < kk + 1 → ∀ c ∈ comb j l, meets c gs = false, fun σ2 F2 ⟨v3, v4, Hk, w1, w2, w3, w4, w5⟩ => ⟨m - 1, by omega, kk + 1, v3, v4, Hk, by omega, w1, w2, w3, w4, w5⟩, ?_⟩, fun h => by cases h⟩
    have y1 := q1.trans (Ext.same q1.s e1)
    refine g_seqFor (H := Hk) (S := NL) (xs := comb kk l) y1.s (gv_var rfl q2)
      (fun H1 i σ' F' => ∃ v4, σ' = [some v1, some v2, some v3', v4] ∧ Ext H F H1 F' ∧ Ex Hk H1 ∧ ∀ c ∈ (comb kk l).take i, meets c gs = false)
      (fun H1 F2 x2 => ⟨v4', rfl, y1.trans x2, x2.k, by simp⟩) (fun H1 i σ' F' ⟨_, _, h, _⟩ => h.s) ?_ ?_
    · rintro H1 F2 i c u σ' F2' x2 hc hu ⟨b4, rfl, w1, w2, w3⟩
      have hcm := mem_comb (List.mem_of_getElem? hc)
      have hcl := hcm.1.length_le
      have h2' := Stb.ex w1.k h2
      show tIfS _ _ _ _ [some v1, some v2, some v3', some u] F2'
      refine g_if (H := H1) (b := meets c gs) w1.s (et_gvB (gv_meets (by omega) (ga_cons (gv_var rfl hu) fun _ e4 => ga_one (gv_var rfl (Stb.ex e4 h2'))))) (fun hb F4 e4 => ?_) (fun hb F4 e4 => ?_)
      · exact ⟨u, rfl, k _ H1 F4 (w1.trans (Ext.same w1.s e4)) ⟨c, hu, ⟨kk, i, hc, hb, w3, q3⟩⟩⟩
      · refine ⟨_, rfl, w1.trans (Ext.same w1.s e4), w2, fun d hd => ?_⟩
        rw [take_snoc hc] at hd
        rcases List.mem_append.mp hd with hd | hd
        · exact w3 d hd
        · have : d = c := by simpa using hd
          rw [this]
          exact hb
    · rintro H1 F2 σ' F2' x2 ⟨b4, rfl, w1, w2, w3⟩
      rw [List.take_length] at w3
      have hlt : kk + 1 ≤ l.length := by
        rcases Nat.lt_or_ge kk l.length with h | h
        · exact h
        · have : kk = l.length := by omega
          subst this
          have := w3 l (comb_full l)
          rw [hm] at this
          cases this
      have hlen := comb_length (kk + 1) l
      rw [← comb_more l kk hrl] at hlen
      refine g_asg (H := H1) (P := NLL (comb (kk + 1) l)) w1.s ?_ fun v5 H5 F5 x5 p5 => ?_
      · rw [← comb_more l kk hrl]
        exact gv_more (by omega) (fun c hc => by have := (mem_comb hc).1.length_le; omega) (ga_cons (gv_var rfl (Stb.ex w1.k h1)) fun _ e4 => ga_one (gv_var rfl (Stb.ex (w2.trans e4) q2)))
      · refine ⟨v5, _, H5, hlt, rfl, w1.trans x5, p5, fun j hj d hd => ?_⟩
        rcases Nat.lt_succ_iff_lt_or_eq.mp hj with h | h
        · exact q3 j h d hd
        · subst h
          exact w3 d hd
end
end La
set_option Elab.async false
set_option linter.all false
set_option maxRecDepth 100000
set_option maxHeartbeats 4000000
namespace La
open PySem PySem.Spec PyProof.Rows L2 Evl
/-! ### the object -/
abbrev Hall := Sy85.St
def plF (r c : Nat) (dp dm : Addr) : List (Str × V) := [("rows", nv r), ("columns", nv c), ("pillars", .ref dp), ("marks", .ref dm)]
theorem lk_here {k : Str} {v : V} {r : List (Str × V)} : List.lookup k ((k, v) :: r) = some v := by
  have e : (k == k) = true := beq_self_eq_true k
  simp only [List.lookup, e]
theorem lk_past {k g : Str} {v : V} {r : List (Str × V)} (h : (k == g) = false) : List.lookup k ((g, v) :: r) = List.lookup k r := by
  simp only [List.lookup, h]
theorem pl_rows (r c : Nat) (dp dm : Addr) : (plF r c dp dm).lookup ("rows" : Str) = some (nv r) := lk_here
theorem pl_cols (r c : Nat) (dp dm : Addr) : (plF r c dp dm).lookup ("columns" : Str) = some (nv c) := (lk_past (by decide +kernel)).trans lk_here
theorem pl_pil (r c : Nat) (dp dm : Addr) : (plF r c dp dm).lookup ("pillars" : Str) = some (.ref dp) := (lk_past (by decide +kernel)).trans ((lk_past (by decide +kernel)).trans lk_here)
theorem pl_mrk (r c : Nat) (dp dm : Addr) : (plF r c dp dm).lookup ("marks" : Str) = some (.ref dm) := (lk_past (by decide +kernel)).trans ((lk_past (by decide +kernel)).trans ((lk_past (by decide +kernel)).trans lk_here))
/-- a name that is none of the attributes -/
def NoF (m : Str) : Prop := (m == ("rows" : Str)) = false ∧ (m == ("columns" : Str)) = false ∧ (m == ("pillars" : Str)) = false ∧ (m == ("marks" : Str)) = false
theorem pl_none {m : Str} (h : NoF m) (r c : Nat) (dp dm : Addr) : (plF r c dp dm).lookup m = none := (lk_past h.1).trans ((lk_past h.2.1).trans ((lk_past h.2.2.1).trans ((lk_past h.2.2.2).trans rfl)))
structure PFits (s : Hall) (kp : List (L2.Key × V)) : Prop where
  keys : ∃ ks : List Nat, ks.Nodup ∧ kp.map (·.1) = (ks.map fun (n : Nat) => (n : Int)).map Sum.inl ∧ ∀ n, n ∈ ks ↔ Sy85.isPillar s n = true
  val : ∀ n : Nat, valV kp (Sum.inl (n : Int)) = (numOf s n).map fun o => nv (o.getD 9)
structure MFits (s : Hall) (km : List (L2.Key × V)) : Prop where
  keys : ∃ ks : List Nat, ks.Nodup ∧ km.map (·.1) = (ks.map fun (n : Nat) => (n : Int)).map Sum.inl ∧ ∀ n, n ∈ ks ↔ n ∈ s.lamps ∨ n ∈ s.bare
  val : ∀ n : Nat, valV km (Sum.inl (n : Int)) = if n ∈ s.lamps then some (nv 1) else if n ∈ s.bare then some (nv 2) else none
def PilD (s : Hall) : VP := fun v H => ∃ d kp, v = .ref d ∧ H d = some (.dK kp) ∧ PFits s kp
def MrkD (s : Hall) : VP := fun v H => ∃ d km, v = .ref d ∧ H d = some (.dK km) ∧ MFits s km
def PlanP (C : Addr) (s : Hall) : VP := fun v H => ∃ a dx dp dm kp km, v = .ref a ∧ H a = some (.ins C dx (plF s.rows s.cols dp dm)) ∧ H dp = some (.dK kp) ∧ H dm = some (.dK km) ∧ dp ≠ dm ∧ PFits s kp ∧ MFits s km ∧ Wf s
instance {s : Hall} : Stb (PilD s) := ⟨fun e ⟨d, kp, h1, h2, h3⟩ => ⟨d, kp, h1, e d _ h2, h3⟩⟩
instance {s : Hall} : Stb (MrkD s) := ⟨fun e ⟨d, kp, h1, h2, h3⟩ => ⟨d, kp, h1, e d _ h2, h3⟩⟩
instance {C : Addr} {s : Hall} : Stb (PlanP C s) := ⟨fun e ⟨a, dx, dp, dm, kp, km, h1, h2, h3, h4, h5⟩ => ⟨a, dx, dp, dm, kp, km, h1, e a _ h2, e dp _ h3, e dm _ h4, h5⟩⟩
/-- the keys of a dict are the members of M -/
def KD (M : List Nat) : VP := fun v H => ∃ (d : Addr) (kvs : List (L2.Key × V)) (ks : List Nat), v = .ref d ∧ H d = some (.dK kvs) ∧ ks.Nodup ∧ kvs.map (·.1) = (ks.map fun (n : Nat) => (n : Int)).map Sum.inl ∧ ks.length < 64 ∧ ∀ n, n ∈ ks ↔ n ∈ M
structure Txt (K : PySem.W.Frag) (mg : Str → Option Value) (C : Addr) : Prop where
  cl : Cls K C
  nR : NoAttr K C "rows"
  nC : NoAttr K C "columns"
  nP : NoAttr K C "pillars"
  nM : NoAttr K C "marks"
  b : Blt mg
  cRows : ∃ t, mg "MOST_ROWS" = some (.int 4 t)
  cCols : ∃ t, mg "MOST_COLUMNS" = some (.int 4 t)
  cBeside : ∃ t, mg "MOST_BESIDE" = some (.int 4 t)
  cNoNum : ∃ t, mg "NO_NUMBER" = some (.int 9 t)
  cNot : ∃ t, mg "NOT_MARKED" = some (.int 0 t)
  cWith : ∃ t, mg "WITH_LAMP" = some (.int 1 t)
  cWithout : ∃ t, mg "WITHOUT_LAMP" = some (.int 2 t)
  cWrong : ∃ t, mg "WRONG_NUMBER" = some (.int (-1) t)
  cTwice : ∃ t, mg "TOLD_TWICE" = some (.int (-1) t)
  cNoSuch : ∃ t, mg "NO_SUCH" = some (.int (-2) t)
  cCell : ∃ t, mg "WRONG_CELL" = some (.int (-4) t)
  cWays : ∃ t, mg "NOT_THAT_MANY_WAYS" = some (.int (-6) t)
  cIs : ∃ t, mg "IS_A_WAY" = some (.int 0 t)
  cNotOn : ∃ t, mg "NOT_ON_A_FREE_CELL" = some (.int 1 t)
  cLit : ∃ t, mg "LIT_BY_ANOTHER" = some (.int 2 t)
  cDark : ∃ t, mg "LEFT_DARK" = some (.int 3 t)
  cMissed : ∃ t, mg "NUMBER_MISSED" = some (.int 4 t)
theorem pe_const {X : Cx} {x : Str} {i : Int} {pos : Pos} (hm : ∃ t, X.mg x = some (.int i t)) (hg : Gl X x := by rfl) (hd : (x == ("__debug__" : Str)) = false := by decide) : PE X (.Name x pos) (tC (.int i)) := by
  obtain ⟨t, h⟩ := hm
  exact pe_glob hg h ⟨t, rfl⟩ hd
section
variable {σ : L2.St} {H F : Hp} {te td ty ta tb : TE} {C : Addr} {s : Hall} {K : PySem.W.Frag} {mg : Str → Option Value}
theorem gv_fld {f : Str} {v : Addr → Addr → V} {P' : VP} (hc : Cls K C) (hn : NoAttr K C f) (hl : ∀ dp dm, (plF s.rows s.cols dp dm).lookup f = some (v dp dm)) (hp : ∀ dp dm kp km H1, H1 dp = some (.dK kp) → H1 dm = some (.dK km) → PFits s kp → MFits s km → P' (v dp dm) H1)
    (h : Gv te σ H (PlanP C s)) : Gv (tFld K te f) σ H P' := fun F e Q q =>
  h F e _ fun x H1 F1 y ⟨a, dx, dp, dm, kp, km, h1, h2, h3, h4, h5, h6, h7, _⟩ => ⟨a, C, dx, _, _, h1, y.s a _ h2, hc, hn, hl dp dm, q _ H1 F1 y (hp dp dm kp km H1 h3 h4 h6 h7)⟩
theorem gv_rows (T : Txt K mg C) (h : Gv te σ H (PlanP C s)) : Gv (tFld K te "rows") σ H (isN s.rows) := gv_fld T.cl T.nR (fun _ _ => pl_rows ..) (fun _ _ _ _ _ _ _ _ _ => rfl) h
theorem gv_cols (T : Txt K mg C) (h : Gv te σ H (PlanP C s)) : Gv (tFld K te "columns") σ H (isN s.cols) := gv_fld T.cl T.nC (fun _ _ => pl_cols ..) (fun _ _ _ _ _ _ _ _ _ => rfl) h
theorem gv_pil (T : Txt K mg C) (h : Gv te σ H (PlanP C s)) : Gv (tFld K te "pillars") σ H (PilD s) := gv_fld T.cl T.nP (fun _ _ => pl_pil ..) (fun dp _ kp _ _ h3 _ h6 _ => ⟨dp, kp, rfl, h3, h6⟩) h
theorem gv_mrk (T : Txt K mg C) (h : Gv te σ H (PlanP C s)) : Gv (tFld K te "marks") σ H (MrkD s) := gv_fld T.cl T.nM (fun _ _ => pl_mrk ..) (fun _ dm _ km _ _ h4 _ h7 => ⟨dm, km, rfl, h4, h7⟩) h
theorem pil_pd {v : V} (h : PilD s v H) : PD (Sy85.isPillar s) v H := by
  obtain ⟨d, kp, h1, h2, h3⟩ := h
  exact ⟨d, kp, h1, h2, fun n => by rw [h3.val, Option.isSome_map, numOf_isSome]⟩
theorem mrk_pd {v : V} (h : MrkD s v H) : PD (fun n => decide (n ∈ s.lamps ∨ n ∈ s.bare)) v H := by
  obtain ⟨d, kp, h1, h2, h3⟩ := h
  refine ⟨d, kp, h1, h2, fun n => ?_⟩
  rw [h3.val]
  by_cases a : n ∈ s.lamps
  · simp [a]
  · by_cases b : n ∈ s.bare
    · simp [a, b]
    · simp [a, b]
theorem gv_pd (T : Txt K mg C) (h : Gv te σ H (PlanP C s)) : Gv (tFld K te "pillars") σ H (PD (Sy85.isPillar s)) := (gv_pil T h).imp fun _ _ _ => pil_pd
theorem wf_of {v : V} (h : PlanP C s v H) : Wf s := by
  obtain ⟨_, _, _, _, _, _, _, _, _, _, _, _, _, w⟩ := h
  exact w
theorem pil_kd (w : Wf s) {v : V} (h : PilD s v H) : KD (s.pillars.map (·.1)) v H := by
  obtain ⟨d, kp, h1, h2, h3⟩ := h
  obtain ⟨ks, k1, k2, k3⟩ := h3.keys
  have hm : ∀ n, n ∈ ks ↔ n ∈ s.pillars.map (·.1) := fun n => (k3 n).trans isPillar_iff
  refine ⟨d, kp, ks, h1, h2, k1, k2, ?_, hm⟩
  refine Nat.lt_of_le_of_lt (few k1 (N := 16) fun n hn => ?_) (by decide)
  obtain ⟨p, hp, rfl⟩ := List.mem_map.mp ((hm n).mp hn)
  exact lt16 w.size (w.plt p hp)
theorem pil_len (w : Wf s) {v : V} (h : PilD s v H) : ∃ d kp, v = .ref d ∧ H d = some (.dK kp) ∧ kp.length = s.pillars.length := by
  obtain ⟨d, kp, h1, h2, h3⟩ := h
  obtain ⟨ks, k1, k2, k3⟩ := h3.keys
  refine ⟨d, kp, h1, h2, ?_⟩
  have e1 : kp.length = ks.length := by
    have := congrArg List.length k2
    simpa using this
  have p : ks.Perm (s.pillars.map (·.1)) := (List.perm_ext_iff_of_nodup k1 (rise_nodup w.prise)).mpr fun n => (k3 n).trans isPillar_iff
  rw [e1, p.length_eq, List.length_map]
def mkeys (s : Hall) : List Nat := (List.range 16).filter fun n => decide (n ∈ s.lamps ∨ n ∈ s.bare)
theorem mkeys_rise (s : Hall) : Rise (mkeys s) := List.Pairwise.filter _ (range_rise _)
theorem mem_mkeys (w : Wf s) (n : Nat) : n ∈ mkeys s ↔ n ∈ s.lamps ∨ n ∈ s.bare := by
  unfold mkeys
  rw [List.mem_filter, List.mem_range, decide_eq_true_eq]
  refine ⟨fun h => h.2, fun h => ⟨?_, h⟩⟩
  rcases h with h | h
  · exact lt16 w.size (w.llt n h).1
  · exact lt16 w.size (w.blt n h).1
theorem mrk_kd (w : Wf s) {v : V} (h : MrkD s v H) : KD (mkeys s) v H := by
  obtain ⟨d, kp, h1, h2, h3⟩ := h
  obtain ⟨ks, k1, k2, k3⟩ := h3.keys
  have hm : ∀ n, n ∈ ks ↔ n ∈ mkeys s := fun n => (k3 n).trans (mem_mkeys w n).symm
  refine ⟨d, kp, ks, h1, h2, k1, k2, ?_, hm⟩
  refine Nat.lt_of_le_of_lt (few k1 (N := 16) fun n hn => ?_) (by decide)
  have := (hm n).mp hn
  unfold mkeys at this
  rw [List.mem_filter, List.mem_range] at this
  exact this.1
/-- sorted(d.keys()) -/
theorem gv_sortedKeys {M : List Nat} (hM : Rise M) (h : Gv te σ H (KD M)) : Gv (tCB rSortedKeys (tCons (tBM0 K "dict" rKeysK te) tNil)) σ H (NL M) := fun F e Q q =>
  h F e _ fun v H1 F1 x ⟨d, kvs, ks, h1, h2, h3, h4, h5, h6⟩ => by
    subst h1
    have hd := x.s d _ h2
    refine ⟨.inr (.inr (.inl ⟨rfl, .inl ⟨_, hd⟩⟩)), d, kvs, rfl, rfl, hd, fun p hp => ?_⟩
    refine ⟨p, d, kvs, ks.map fun (n : Nat) => (n : Int), rfl, upd_same, (upd_ne (ne_of_none hd hp)).trans hd, h4, by rw [List.length_map]; exact h5, fun ys a hp1 hs1 ha => ?_⟩
    have hys := sorted_is h3 hM (fun n => (h6 n).symm) hp1 hs1
    rw [hys]
    have hFa : F1 a = none := by
      have : a ≠ p := fun q => by
        subst q
        rw [upd_same] at ha
        cases ha
      rwa [upd_ne this] at ha
    exact q _ _ _ (x.trans (Ext.new x.s hFa ((Ex.new hp).trans (Ex.new ha)) upd_same)) ⟨a, rfl, upd_same⟩
theorem gv_dget {n : Nat} {o : Option Nat} (hd : Gv td σ H (PilD s)) (hy : ∀ H1, Ex H H1 → Gv ty σ H1 (isN n)) (hn : numOf s n = some o) : Gv (tDGet td ty) σ H (isN (o.getD 9)) := fun F e Q q =>
  hd F e _ fun u H1 F1 x ⟨d, kp, h1, h2, h3⟩ => hy H1 x.k F1 x.s _ fun y H2 F2 z hy' => by
    obtain rfl : y = nv n := hy'
    have hv := h3.val n
    rw [hn] at hv
    exact ⟨d, _, h1, by rw [← show valV kp (Sum.inl (n : Int)) = some (nv (o.getD 9)) from hv]; exact DGet.k (k := Sum.inl (n : Int)) (z.s d _ (x.s d _ h2 |> fun _ => z.k d _ h2)), q _ H2 F2 (x.trans z) rfl⟩
theorem gv_mget {n : Nat} {i : Nat} (hd : Gv td σ H (MrkD s)) (hy : ∀ H1, Ex H H1 → Gv ty σ H1 (isN n)) (hn : (if n ∈ s.lamps then some (nv 1) else if n ∈ s.bare then some (nv 2) else none) = some (nv i)) : Gv (tDGet td ty) σ H (isN i) := fun F e Q q =>
  hd F e _ fun u H1 F1 x ⟨d, kp, h1, h2, h3⟩ => hy H1 x.k F1 x.s _ fun y H2 F2 z hy' => by
    obtain rfl : y = nv n := hy'
    have hv := h3.val n
    rw [hn] at hv
    exact ⟨d, _, h1, by rw [← hv]; exact DGet.k (k := Sum.inl (n : Int)) (z.s d _ (z.k d _ h2)), q _ H2 F2 (x.trans z) rfl⟩
/-- a method of the hall that leaves it as it is -/
theorem gv_mP {α : Type} {Cn : α → Prop} {Ps : α → List VP} {B : α → VP} {E : XK} {tr : TA} {m : Str} {Ps' : List VP} (a : α) (hm : NoF m) (hc : Cn a) (hP : Ps a = PlanP C s :: Ps') (ho : Gv te σ H (PlanP C s)) (h : ∀ H1, Ex H H1 → GvA tr σ H1 Ps') : Gv (tMeth C m (SpF Cn Ps B) [] E te tr) σ H (B a) :=
  gv_meth a hc hP (fun v H1 ⟨p, dx, dp, dm, kp, km, h1, h2, _⟩ => ⟨p, dx, _, h1, h2, pl_none hm ..⟩) ho h
end
section
variable {P : Program} {w : World} {K : PySem.W.Frag} {mg : Str → Option Value} {base : Heap} {C : Addr}
/-! ### with_lists -/
abbrev answerOf (a : Nat × List (List Nat)) : List Nat := a.1 :: a.2.flatMap fun r => r.length :: r
abbrev spLists : Sp := SpF (fun (a : Nat × List (List Nat)) => a.2.length ≤ 10 ∧ ∀ r ∈ a.2, r.length ≤ 1000) (fun a => [isN a.1, NLL a.2]) (fun a => NL (answerOf a))
theorem gv_lists {σ : L2.St} {H : Hp} {ta : TA} {n : Nat} {rs : List (List Nat)} (hz : rs.length ≤ 10) (hr : ∀ r ∈ rs, r.length ≤ 1000) (h : GvA ta σ H [isN n, NLL rs]) : Gv (tCall spLists [] E0 ta) σ H (NL (answerOf (n, rs))) :=
  gv_call (C := fun (a : Nat × List (List Nat)) => a.2.length ≤ 10 ∧ ∀ r ∈ a.2, r.length ≤ 1000) (Ps := fun a => [isN a.1, NLL a.2]) (B := fun a => NL (answerOf a)) (n, rs) ⟨hz, hr⟩ h
abbrev nLists : List Str := ["number", "rows", "answer", "row"]
theorem scLists : FnScope nLists ["number", "rows"] (defScope (top 31)) := ⟨rfl, rfl, rfl, by decide +kernel, rfl, by decide +kernel, by decide +kernel⟩
theorem ans_len {n : Nat} : ∀ {rs : List (List Nat)}, (∀ r ∈ rs, r.length ≤ 1000) → (answerOf (n, rs)).length ≤ 1 + rs.length * 1001
  | [], _ => by simp
  | r :: rs, h => by
    have ih := ans_len (n := n) (rs := rs) fun x hx => h x (List.mem_cons_of_mem _ hx)
    have := h r List.mem_cons_self
    simp only [answerOf, List.flatMap_cons, List.length_cons, List.length_append] at ih ⊢
    omega
theorem ok_lists {f : Addr} {fd : FuncData} (Fn : Fun K "with_lists" "with_lists" (top 31) f fd) (T : Blt mg) : FnOk P w K mg base CX0 1 f fd ["number", "rows"] spLists := by
  refine Fn.ok scLists (fun vs H Q E h => ?_) (fun cdv A outer s F vs Q E hr h => ?_)
  · obtain ⟨a, H0, _, _, hp, _⟩ := h
    exact allP_len hp
  · obtain ⟨⟨n, rs⟩, H, ⟨hz, hrs⟩, e, hp, k⟩ := h
    replace hz : rs.length ≤ 10 := hz
    replace hrs : ∀ r ∈ rs, r.length ≤ 1000 := hrs
    obtain ⟨v1, v2, rfl, h1, h2⟩ := allP2 hp
    obtain rfl : v1 = nv n := h1
    refine ⟨_, pss_cons (ps_set (i := 2) scLists.nd rfl (Or.inl rfl) (pe_lst (pa_cons (pv 0) pa_nil)))
      (pss_cons (ps_for PassesOwn.never rfl (pi_list (pv 1)) (pg_name (i := 3) scLists.nd rfl (Or.inl rfl))
        (pss_cons (ps_expr (pe_bm PySem.F.plainAttrs_list PySem.F.slot_list_append PySem.F.type_list_append mt_append (pv 2) (pa_cons (pe_callB call_len_seq (by rfl) T.len boot_len (pa_cons (pv 3) pa_nil)) pa_nil)))
          (pss_one (ps_expr (pe_bm PySem.F.plainAttrs_list PySem.F.slot_list_extend PySem.F.type_list_extend mt_extend (pv 2) (pa_cons (pv 3) pa_nil))))))
      (pss_one (ps_ret (pv 2)))), ?_⟩
    refine s_asgL (el_lst (ea_cons (ev_var rfl) ea_nil) (by show 1 ≤ 100000; decide)) fun p F0 hp0 e0 hF0 => ?_
    have hpH : H p = none := fresh_back e hp0
    refine g_seqFor (H := H) (S := NL) (xs := rs) (e.trans e0) (gv_var rfl h2)
      (fun H1 i σ' F' => ∃ v4, σ' = [some (nv n), some v2, some (.ref p), v4] ∧ Ex H1 F' ∧ H1 p = none ∧ Ex F F' ∧ F' p = some (.lst ((answerOf (n, rs.take i)).map nv)))
      (fun H1 F1 x1 => ⟨none, rfl, x1.s, x1.out hF0 hpH, e0.trans x1.f, x1.f p _ hF0⟩) (fun H1 i σ' F' ⟨_, _, h, _⟩ => h) ?_ ?_
    · rintro H1 F1 i r u σ' F' x1 hr1 hu ⟨a4, rfl, q1, q2, q3, q4⟩
      have hi := (List.getElem?_eq_some_iff.mp hr1).1
      have hrl := hrs r (List.mem_of_getElem? hr1)
      have hal := ans_len (n := n) (rs := rs.take i) fun x hx => hrs x (List.mem_of_mem_take hx)
      have htl : (rs.take i).length ≤ 10 := by
        rw [List.length_take]
        omega
      show tSeq _ _ _ [some (nv n), some v2, some (.ref p), some u] F'
      refine g_app (D := { nx := _, rt := _, bk := _, ct := _ }) (H := H1) (P := isN r.length) q1 q4 rfl (gv_lenN (gv_var rfl hu)) (by rw [List.length_map]; omega) fun v H2 F2 x2 hv => ?_
      obtain rfl : v = nv r.length := hv
      obtain ⟨b, rfl, hb⟩ := Stb.ex x2.k hu
      have o2 := x2.out q4 q2
      have hbp : b ≠ p := fun q => by
        subst q
        rw [o2] at hb
        cases hb
      have hb' : upd F2 p (.lst ((answerOf (n, rs.take i)).map nv ++ [nv r.length])) b = some (.lst (r.map nv)) := (upd_ne hbp).trans (x2.s b _ hb)
      refine ⟨_, rfl, .inl ⟨rfl, _, sq_of upd_same⟩, _, rfl, p, b, _, _, rfl, rfl, upd_same, hb', by rw [List.length_append, List.length_map, List.length_map, List.length_singleton]; exact sz_of (by omega), ?_⟩
      refine ⟨_, rfl, ?_, q2, ?_, ?_⟩
      · rw [upd_upd]
        exact Ex.mut (x2.k.trans x2.s) q2
      · rw [upd_upd]
        exact Ex.mut (q3.trans x2.f) hp0
      · have e9 : (answerOf (n, rs.take (i + 1))).map nv = (answerOf (n, rs.take i)).map nv ++ [nv r.length] ++ r.map nv := by
          rw [take_snoc hr1]
          simp [answerOf]
        rw [e9]
        exact upd_same
    · rintro H1 F1 σ' F' x1 ⟨a4, rfl, q1, q2, q3, q4⟩
      rw [List.take_length] at q4
      exact ⟨_, rfl, k _ _ F' (Ext.new e hp0 q3 q4) ⟨p, rfl, upd_same⟩⟩
end
end La
set_option Elab.async false
set_option linter.all false
set_option maxRecDepth 100000
set_option maxHeartbeats 4000000
namespace La
open PySem PySem.Spec PyProof.Rows L2 Evl
section
variable {P : Program} {w : World} {K : PySem.W.Frag} {mg : Str → Option Value} {base : Heap} {C : Addr}
def inPlan (j : Nat) : Stmt := inClass (top 34) j
/-! ### has_cell -/
abbrev spHasCell (C : Addr) : Sp := SpF (fun (_ : Hall × Nat) => True) (fun a => [PlanP C a.1, isN a.2]) (fun a => isB (decide (a.2 < a.1.rows * a.1.cols)))
theorem gv_hasCell {σ : L2.St} {H : Hp} {te ta : TE} {s : Hall} {x : Nat} (ho : Gv te σ H (PlanP C s)) (h : ∀ H1, Ex H H1 → Gv ta σ H1 (isN x)) : Gv (tMeth C "has_cell" (spHasCell C) [] E0 te (tCons ta tNil)) σ H (isB (decide (x < s.rows * s.cols))) :=
  gv_mP (Cn := fun (_ : Hall × Nat) => True) (Ps := fun a => [PlanP C a.1, isN a.2]) (B := fun a => isB (decide (a.2 < a.1.rows * a.1.cols))) (s, x) (by unfold NoF; decide +kernel) trivial rfl ho fun H1 e1 => ga_one (h H1 e1)
theorem scHasCell : FnScope ["self", "cell"] ["self", "cell"] (defScope (inPlan 13)) := ⟨rfl, rfl, rfl, by decide +kernel, rfl, by decide +kernel, by decide +kernel⟩
theorem gv_area {σ : L2.St} {H : Hp} {te tf : TE} {s : Hall} (T : Txt K mg C) (w : Wf s) (h : Gv te σ H (PlanP C s)) (h2 : Gv tf σ H (PlanP C s)) : Gv (tOp (rI CMul fun i j => .int (i * j)) (tFld K te "rows") (tFld K tf "columns")) σ H (isN (s.rows * s.cols)) := by
  have h1 := w.size.r4
  have := gv_I (C := CMul) (g := fun i j => .int (i * j)) (gv_rows T h) (gv_cols T h2) (.inl ⟨by omega, by omega⟩)
  rw [nv_mul] at this
  exact this
theorem ok_has_cell {f : Addr} {fd : FuncData} (Fn : Fun K "has_cell" "Plan.has_cell" (inPlan 13) f fd) (T : Txt K mg C) : FnOk P w K mg base CX0 1 f fd ["self", "cell"] (spHasCell C) := by
  refine Fn.ok scHasCell (fun vs H Q E h => ?_) (fun cdv A outer sh F vs Q E hr h => ?_)
  · obtain ⟨a, H0, _, _, hp, _⟩ := h
    exact allP_len hp
  · obtain ⟨⟨s, x⟩, H, _, e, hp, k⟩ := h
    obtain ⟨v1, v2, rfl, h1, h2⟩ := allP2 hp
    refine ⟨_, pss_one (ps_ret (pe_cmpR op_lt (pv 1) (pe_op op_mul (pe_fld (pv 0) rfl) (pe_fld (pv 0) rfl)) (nomark _))), ?_⟩
    refine g_ret e (P := isB (decide (x < s.rows * s.cols))) ?_ fun v H' F' x p => k v H' F' x p
    have := gv_I0 (σ := L2.start ["self", "cell"] [v1, v2]) (H := H) (ta := tVar 1) (g := fun i j => .bl (decide (i < j))) (i := (x : Int)) (gv_var rfl h2) (gv_area T (wf_of h1) (te := tVar 0) (tf := tVar 0) (gv_var rfl h1) (gv_var rfl h1))
    rw [show decide ((x : Int) < ((s.rows * s.cols : Nat) : Int)) = decide (x < s.rows * s.cols) from dec_iff (by omega)] at this
    exact this
/-! ### free_cells -/
abbrev spFree (C : Addr) : Sp := SpF (fun (_ : Hall) => True) (fun s => [PlanP C s]) (fun s => NL (Sy85.free s))
theorem gv_free {σ : L2.St} {H : Hp} {te : TE} {s : Hall} (ho : Gv te σ H (PlanP C s)) : Gv (tMeth C "free_cells" (spFree C) [] E0 te tNil) σ H (NL (Sy85.free s)) :=
  gv_mP (Cn := fun (_ : Hall) => True) (Ps := fun s => [PlanP C s]) (B := fun s => NL (Sy85.free s)) s (by unfold NoF; decide +kernel) trivial rfl ho fun _ _ => ga_nil
theorem scFree : FnScope ["self", "cell"] ["self"] (defScope (inPlan 14)) := ⟨rfl, rfl, rfl, by decide +kernel, rfl, by decide +kernel, by decide +kernel⟩
theorem ok_free {f : Addr} {fd : FuncData} (Fn : Fun K "free_cells" "Plan.free_cells" (inPlan 14) f fd) (T : Txt K mg C) : FnOk P w K mg base CX0 1 f fd ["self"] (spFree C) := by
  refine Fn.ok scFree (fun vs H Q E h => ?_) (fun cdv A outer sh F vs Q E hr h => ?_)
  · obtain ⟨a, H0, _, _, hp, _⟩ := h
    exact allP_len hp
  · obtain ⟨s, H, _, e, hp, k⟩ := h
    obtain ⟨v1, rfl, h1⟩ := allP1 hp
    have wf : Wf s := wf_of h1
    have h16 : s.rows * s.cols ≤ 16 := Nat.mul_le_mul wf.size.r4 wf.size.c4
    refine ⟨_, pss_one (ps_ret (pe_lc (own := [("cell", 1)]) (g := gName 1) (tt := tB (tDNotIn (tVar 1) (tFld K (tVar 0) "pillars"))) (te := tVar 1) rfl scFree.nd (pi_range1 (by rfl) T.b.range (pa_cons (pe_op op_mul (pe_fld (pv 0) rfl) (pe_fld (pv 0) rfl)) pa_nil)) (blkOk_by (N := ["self", "cell"]) (sc := defScope (inPlan 14)) (by decide +kernel))
      (fun _ _ _ _ _ => pg_name (i := 1) scFree.nd rfl (Or.inl rfl)) (fun _ _ _ _ _ => pts_one (pt_cmp (pc_dnotin (hu_of hr) (pv 1) (pe_fld (pv 0) rfl)))) (fun _ _ _ _ _ => pv 1))), ?_⟩
    refine g_ret e (P := NL (Sy85.free s)) ?_ fun v H' F' x p => k v H' F' x p
    exact gv_lcRF (n := s.rows * s.cols) (fun x => !Sy85.isPillar s x) (ea_cons (ev_gv (gv_area T wf (gv_var rfl h1) (gv_var rfl h1))) ea_nil) (by omega) (fun x => rfl) (fun y H1 hy e1 => et_gvB (gv_dnotin (gv_var rfl rfl) fun H2 e2 => gv_pd T (gv_var rfl (Stb.ex (e1.trans e2) h1)))) (fun x => rfl)
/-! ### all_free -/
abbrev allFree (s : Hall) (l : List Nat) : Bool := l.all fun x => decide (x < s.rows * s.cols) && !Sy85.isPillar s x
abbrev spAllFree (C : Addr) : Sp := SpF (fun (a : Hall × List Nat) => a.2.length ≤ 100000) (fun a => [PlanP C a.1, NL a.2]) (fun a => isB (allFree a.1 a.2))
theorem gv_allFree {σ : L2.St} {H : Hp} {te ta : TE} {s : Hall} {l : List Nat} (hl : l.length ≤ 100000) (ho : Gv te σ H (PlanP C s)) (h : ∀ H1, Ex H H1 → Gv ta σ H1 (NL l)) : Gv (tMeth C "all_free" (spAllFree C) [] E0 te (tCons ta tNil)) σ H (isB (allFree s l)) :=
  gv_mP (Cn := fun (a : Hall × List Nat) => a.2.length ≤ 100000) (Ps := fun a => [PlanP C a.1, NL a.2]) (B := fun a => isB (allFree a.1 a.2)) (s, l) (by unfold NoF; decide +kernel) hl rfl ho fun H1 e1 => ga_one (h H1 e1)
theorem scAllFree : FnScope ["self", "cells", "cell"] ["self", "cells"] (defScope (inPlan 15)) := ⟨rfl, rfl, rfl, by decide +kernel, rfl, by decide +kernel, by decide +kernel⟩
theorem ok_all_free {f : Addr} {fd : FuncData} (Fn : Fun K "all_free" "Plan.all_free" (inPlan 15) f fd) (T : Txt K mg C) (HC : HasM P w K mg base C "has_cell" 1 ["self", "cell"] (spHasCell C)) : FnOk P w K mg base CX0 2 f fd ["self", "cells"] (spAllFree C) := by
  refine Fn.ok scAllFree (fun vs H Q E h => ?_) (fun cdv A outer sh F vs Q E hr h => ?_)
  · obtain ⟨a, H0, _, _, hp, _⟩ := h
    exact allP_len hp
  · obtain ⟨⟨s, l⟩, H, hl, e, hp, k⟩ := h
    obtain ⟨v1, v2, rfl, h1, h2⟩ := allP2 hp
    refine ⟨_, pss_one (ps_ret (pe_callB (cr_all rfl) (by rfl) T.b.all boot_all (pa_cons (pe_lc (own := [("cell", 2)]) (g := gName 2) (tt := tYes) (te := tAndV (tMeth C "has_cell" (spHasCell C) [] E0 (tVar 0) (tCons (tVar 2) tNil)) (tDNotIn (tVar 2) (tFld K (tVar 0) "pillars"))) rfl scAllFree.nd (pi_list (pv 1)) (blkOk_by (N := ["self", "cells", "cell"]) (sc := defScope (inPlan 15)) (by decide +kernel))
      (fun _ _ _ _ _ => pg_name (i := 2) scAllFree.nd rfl (Or.inl rfl)) (fun _ _ _ _ _ => pts_nil) (fun _ _ _ _ _ => pe_and (pe_hasM (pv 0) T.cl HC hr (pa_cons (pv 2) pa_nil)) (pe_one (pe_cmp (pc_dnotin (hu_of hr) (pv 2) (pe_fld (pv 0) rfl)))))) pa_nil))), ?_⟩
    refine g_ret e (P := isB (allFree s l)) ?_ fun v H' F' x p => k v H' F' x p
    refine Gv.imp (gv_all (gv_lcB (S := isN) (fun x => decide (x < s.rows * s.cols) && !Sy85.isPillar s x) (gv_var rfl (nl_lst.mp h2)) hl (fun x => rfl) fun y x H1 hy e1 hs => ?_)) fun v H1 _ p => ?_
    · obtain rfl : x = nv y := hs
      exact gv_is (ev_andV (ev_gv (gv_hasCell (gv_var rfl (Stb.ex e1 h1)) fun _ _ => gv_var rfl rfl)) fun _ => ev_gv (gv_dnotin (gv_var rfl rfl) fun H2 e2 => gv_pd T (gv_var rfl (Stb.ex (e1.trans e2) h1))))
    · rw [List.all_map] at p
      exact p
/-! ### numbered -/
abbrev spNumbered (C : Addr) : Sp := SpF (fun (_ : Hall) => True) (fun s => [PlanP C s]) (fun s => NL (Sy85.told s))
theorem gv_numbered {σ : L2.St} {H : Hp} {te : TE} {s : Hall} (ho : Gv te σ H (PlanP C s)) : Gv (tMeth C "numbered" (spNumbered C) [] E0 te tNil) σ H (NL (Sy85.told s)) :=
  gv_mP (Cn := fun (_ : Hall) => True) (Ps := fun s => [PlanP C s]) (B := fun s => NL (Sy85.told s)) s (by unfold NoF; decide +kernel) trivial rfl ho fun _ _ => ga_nil
theorem scNumbered : FnScope ["self", "cell"] ["self"] (defScope (inPlan 16)) := ⟨rfl, rfl, rfl, by decide +kernel, rfl, by decide +kernel, by decide +kernel⟩
theorem v_eq {i j : Int} : decide (V.int i = V.int j) = decide (i = j) := dec_iff ⟨fun h => by injection h, fun h => congrArg V.int h⟩
theorem ok_numbered {f : Addr} {fd : FuncData} (Fn : Fun K "numbered" "Plan.numbered" (inPlan 16) f fd) (T : Txt K mg C) : FnOk P w K mg base CX0 1 f fd ["self"] (spNumbered C) := by
  refine Fn.ok scNumbered (fun vs H Q E h => ?_) (fun cdv A outer sh F vs Q E hr h => ?_)
  · obtain ⟨a, H0, _, _, hp, _⟩ := h
    exact allP_len hp
  · obtain ⟨s, H, _, e, hp, k⟩ := h
    obtain ⟨v1, rfl, h1⟩ := allP1 hp
    have wf : Wf s := wf_of h1
    refine ⟨_, pss_one (ps_ret (pe_lc (own := [("cell", 1)]) (g := gName 1) (tt := tTest (tOp rNe (tDGet (tFld K (tVar 0) "pillars") (tVar 1)) (tC (.int 9)))) (te := tVar 1) rfl scNumbered.nd
      (pi_list (pe_callB (cr_sortedKeys rfl) (by rfl) T.b.sorted boot_sorted (pa_cons (pe_bm0 PySem.F.plainAttrs_dict PySem.F.slot_dict_keys PySem.F.type_dict_keys mt_keysK (pe_fld (pv 0) rfl)) pa_nil))) (blkOk_by (N := ["self", "cell"]) (sc := defScope (inPlan 16)) (by decide +kernel))
      (fun _ _ _ _ _ => pg_name (i := 1) scNumbered.nd rfl (Or.inl rfl)) (fun _ _ _ _ _ => pts_one (pt_cmpR op_ne (pe_dget (hu_of hr) (pe_fld (pv 0) rfl) (pv 1) (fun _ _ => rfl)) (pe_const T.cNoNum) (nomark _))) (fun _ _ _ _ _ => pv 1))), ?_⟩
    refine g_ret e (P := NL (Sy85.told s)) ?_ fun v H' F' x p => k v H' F' x p
    refine Gv.imp (P := NL ((s.pillars.map (·.1)).filter fun x => !decide (((numOf s x).getD none).getD 9 = 9))) ?_ fun v H1 _ p => by rw [told_eq wf]; exact p
    refine gv_lcF (xs := s.pillars.map (·.1)) (fun x => !decide (((numOf s x).getD none).getD 9 = 9)) ?_ ?_ ?_ ?_ ?_
    · exact gv_sortedKeys wf.prise ((gv_pil T (gv_var rfl h1)).imp fun _ _ _ p => pil_kd wf p)
    · rw [List.length_map]
      have := pillars_few wf
      omega
    · exact fun x => rfl
    rotate_left
    · exact fun x => rfl
    intro y H1 hy e1
    obtain ⟨p, hp, rfl⟩ := List.mem_map.mp hy
    have hn := numOf_mem wf hp
    refine et_is (et_gv (gv_op (gv_dget (gv_pil T (gv_var rfl (Stb.ex e1 h1))) (fun _ _ => gv_var rfl rfl) hn) gv_c (rv_ne rfl))) ?_
    rw [hn, v_eq]
    congr 1
    exact dec_iff (by simp; omega)
/-! ### marked -/
abbrev spMarked (C : Addr) : Sp := SpF (fun (a : Hall × Bool) => True) (fun a => [PlanP C a.1, isN (if a.2 then 1 else 2)]) (fun a => NL (if a.2 then a.1.lamps else a.1.bare))
theorem gv_marked {σ : L2.St} {H : Hp} {te ta : TE} {s : Hall} {b : Bool} (ho : Gv te σ H (PlanP C s)) (h : ∀ H1, Ex H H1 → Gv ta σ H1 (isN (if b then 1 else 2))) : Gv (tMeth C "marked" (spMarked C) [] E0 te (tCons ta tNil)) σ H (NL (if b then s.lamps else s.bare)) :=
  gv_mP (Cn := fun (a : Hall × Bool) => True) (Ps := fun a => [PlanP C a.1, isN (if a.2 then 1 else 2)]) (B := fun a => NL (if a.2 then a.1.lamps else a.1.bare)) (s, b) (by unfold NoF; decide +kernel) trivial rfl ho fun H1 e1 => ga_one (h H1 e1)
theorem scMarked : FnScope ["self", "how", "cell"] ["self", "how"] (defScope (inPlan 17)) := ⟨rfl, rfl, rfl, by decide +kernel, rfl, by decide +kernel, by decide +kernel⟩
theorem marked_is {s : Hall} (wf : Wf s) (b : Bool) : (mkeys s).filter (fun n => if b then decide (n ∈ s.lamps) else decide (n ∉ s.lamps)) = if b then s.lamps else s.bare := by
  cases b with
  | true =>
    refine rise_ext (List.Pairwise.filter _ (mkeys_rise s)) wf.lrise fun n => ?_
    rw [List.mem_filter, mem_mkeys wf]
    simp
    exact fun h => .inl h
  | false =>
    refine rise_ext (List.Pairwise.filter _ (mkeys_rise s)) wf.brise fun n => ?_
    rw [List.mem_filter, mem_mkeys wf]
    simp
    constructor
    · rintro ⟨h | h, h2⟩
      · exact absurd h h2
      · exact h
    · exact fun h => ⟨.inr h, fun h2 => wf.apart n h2 h⟩
theorem ok_marked {f : Addr} {fd : FuncData} (Fn : Fun K "marked" "Plan.marked" (inPlan 17) f fd) (T : Txt K mg C) : FnOk P w K mg base CX0 1 f fd ["self", "how"] (spMarked C) := by
  refine Fn.ok scMarked (fun vs H Q E h => ?_) (fun cdv A outer sh F vs Q E hr h => ?_)
  · obtain ⟨a, H0, _, _, hp, _⟩ := h
    exact allP_len hp
  · obtain ⟨⟨s, b⟩, H, _, e, hp, k⟩ := h
    obtain ⟨v1, v2, rfl, h1, h2⟩ := allP2 hp
    have wf : Wf s := wf_of h1
    obtain rfl : v2 = nv (if b then 1 else 2) := h2
    refine ⟨_, pss_one (ps_ret (pe_lc (own := [("cell", 2)]) (g := gName 2) (tt := tTest (tOp rEq (tDGet (tFld K (tVar 0) "marks") (tVar 2)) (tVar 1))) (te := tVar 2) rfl scMarked.nd
      (pi_list (pe_callB (cr_sortedKeys rfl) (by rfl) T.b.sorted boot_sorted (pa_cons (pe_bm0 PySem.F.plainAttrs_dict PySem.F.slot_dict_keys PySem.F.type_dict_keys mt_keysK (pe_fld (pv 0) rfl)) pa_nil))) (blkOk_by (N := ["self", "how", "cell"]) (sc := defScope (inPlan 17)) (by decide +kernel))
      (fun _ _ _ _ _ => pg_name (i := 2) scMarked.nd rfl (Or.inl rfl)) (fun _ _ _ _ _ => pts_one (pt_cmpR op_eq (pe_dget (hu_of hr) (pe_fld (pv 0) rfl) (pv 2) (fun _ _ => rfl)) (pv 1) (nomark _))) (fun _ _ _ _ _ => pv 2))), ?_⟩
    refine g_ret e (P := NL (if b then s.lamps else s.bare)) ?_ fun v H' F' x p => k v H' F' x p
    rw [← marked_is wf b]
    refine gv_lcF (xs := mkeys s) (fun n => if b then decide (n ∈ s.lamps) else decide (n ∉ s.lamps)) (gv_sortedKeys (mkeys_rise s) ((gv_mrk T (gv_var rfl h1)).imp fun _ _ _ p => mrk_kd wf p)) ?_ (fun x => rfl) (fun y H1 hy e1 => ?_) (fun x => rfl)
    · have := List.length_filter_le (fun n => decide (n ∈ s.lamps ∨ n ∈ s.bare)) (List.range 16)
      rw [List.length_range] at this
      unfold mkeys
      omega
    · have hm := (mem_mkeys wf y).mp hy
      by_cases hl : y ∈ s.lamps
      · refine et_is (et_gv (gv_op (gv_mget (i := 1) (gv_mrk T (gv_var rfl (Stb.ex e1 h1))) (fun _ _ => gv_var rfl rfl) (if_pos hl)) (gv_var rfl rfl) (rv_eq rfl))) ?_
        cases b <;> simp [hl]
      · have hb : y ∈ s.bare := hm.resolve_left hl
        refine et_is (et_gv (gv_op (gv_mget (i := 2) (gv_mrk T (gv_var rfl (Stb.ex e1 h1))) (fun _ _ => gv_var rfl rfl) (by rw [if_neg hl, if_pos hb])) (gv_var rfl rfl) (rv_eq rfl))) ?_
        cases b <;> simp [hl]
/-! ### settings -/
abbrev spSettings (C : Addr) : Sp := SpF (fun (_ : Hall) => True) (fun s => [PlanP C s]) (fun s => NLL (Sy85.settings s))
theorem gv_settings {σ : L2.St} {H : Hp} {te : TE} {s : Hall} (ho : Gv te σ H (PlanP C s)) : Gv (tMeth C "settings" (spSettings C) [] E0 te tNil) σ H (NLL (Sy85.settings s)) :=
  gv_mP (Cn := fun (_ : Hall) => True) (Ps := fun s => [PlanP C s]) (B := fun s => NLL (Sy85.settings s)) s (by unfold NoF; decide +kernel) trivial rfl ho fun _ _ => ga_nil
theorem scSettings : FnScope ["self"] ["self"] (defScope (inPlan 18)) := ⟨rfl, rfl, rfl, by decide +kernel, rfl, by decide +kernel, by decide +kernel⟩
theorem ok_settings {f : Addr} {fd : FuncData} (Fn : Fun K "settings" "Plan.settings" (inPlan 18) f fd) (T : Txt K mg C) (HA : Has P w K mg base "all_settings" 3 ["rows", "columns", "pillars"] spAll) : FnOk P w K mg base CX0 4 f fd ["self"] (spSettings C) := by
  refine Fn.ok scSettings (fun vs H Q E h => ?_) (fun cdv A outer sh F vs Q E hr h => ?_)
  · obtain ⟨a, H0, _, _, hp, _⟩ := h
    exact allP_len hp
  · obtain ⟨s, H, _, e, hp, k⟩ := h
    obtain ⟨v1, rfl, h1⟩ := allP1 hp
    have wf : Wf s := wf_of h1
    refine ⟨_, pss_one (ps_ret (pe_has HA hr (by rfl) (pa_cons (pe_fld (pv 0) rfl) (pa_cons (pe_fld (pv 0) rfl) (pa_cons (pe_fld (pv 0) rfl) pa_nil))))), ?_⟩
    refine g_ret e (P := NLL (Sy85.settings s)) ?_ fun v H' F' x p => k v H' F' x p
    rw [← settings_eq wf.size]
    exact gv_allSettings wf.size (ga_cons (gv_rows T (gv_var rfl h1)) fun _ e1 => ga_cons (gv_cols T (gv_var rfl (Stb.ex e1 h1))) fun _ e2 => ga_one (gv_pd T (gv_var rfl (Stb.ex (e1.trans e2) h1))))
/-! ### lamps_beside -/
abbrev spBesideC (C : Addr) : Sp := SpF (fun (a : Hall × Nat × List Nat) => a.2.1 < 1000) (fun a => [PlanP C a.1, isN a.2.1, NL a.2.2]) (fun a => isN (cnt a.1 a.2.1 a.2.2))
theorem gv_lampsBeside {σ : L2.St} {H : Hp} {te ta tb : TE} {s : Hall} {x : Nat} {l : List Nat} (hx : x < 1000) (ho : Gv te σ H (PlanP C s)) (h : ∀ H1, Ex H H1 → Gv ta σ H1 (isN x)) (h2 : ∀ H1, Ex H H1 → Gv tb σ H1 (NL l)) : Gv (tMeth C "lamps_beside" (spBesideC C) [] E0 te (tCons ta (tCons tb tNil))) σ H (isN (cnt s x l)) :=
  gv_mP (Cn := fun (a : Hall × Nat × List Nat) => a.2.1 < 1000) (Ps := fun a => [PlanP C a.1, isN a.2.1, NL a.2.2]) (B := fun a => isN (cnt a.1 a.2.1 a.2.2)) (s, x, l) (by unfold NoF; decide +kernel) hx rfl ho fun H1 e1 => ga_cons (h H1 e1) fun H2 e2 => ga_one (h2 H2 (e1.trans e2))
theorem scLampsBeside : FnScope ["self", "cell", "lamps", "near"] ["self", "cell", "lamps"] (defScope (inPlan 23)) := ⟨rfl, rfl, rfl, by decide +kernel, rfl, by decide +kernel, by decide +kernel⟩
theorem besideM_len (r c x : Nat) : (besideM r c x).length ≤ 4 := by
  unfold besideM
  exact Nat.le_trans (List.length_filterMap_le _ _) (by rw [lines_length]; exact Nat.le_refl _)
theorem ok_lampsBeside {f : Addr} {fd : FuncData} (Fn : Fun K "lamps_beside" "Plan.lamps_beside" (inPlan 23) f fd) (T : Txt K mg C) (HB : Has P w K mg base "beside" 2 ["rows", "columns", "cell"] spBeside) : FnOk P w K mg base CX0 3 f fd ["self", "cell", "lamps"] (spBesideC C) := by
  refine Fn.ok scLampsBeside (fun vs H Q E h => ?_) (fun cdv A outer sh F vs Q E hr h => ?_)
  · obtain ⟨a, H0, _, _, hp, _⟩ := h
    exact allP_len hp
  · obtain ⟨⟨s, x, l⟩, H, hx, e, hp, k⟩ := h
    obtain ⟨v1, v2, v3, rfl, h1, h2, h3⟩ := allP3 hp
    have wf : Wf s := wf_of h1
    refine ⟨_, pss_one (ps_ret (pe_callB call_len_seq (by rfl) T.b.len boot_len (pa_cons (pe_lc (own := [("near", 3)]) (g := gName 3) (tt := tTest (tOp (rIn K false) (tVar 3) (tVar 2))) (te := tVar 3) rfl scLampsBeside.nd
      (pi_list (pe_has HB hr (by rfl) (pa_cons (pe_fld (pv 0) rfl) (pa_cons (pe_fld (pv 0) rfl) (pa_cons (pv 1) pa_nil))))) (blkOk_by (N := ["self", "cell", "lamps", "near"]) (sc := defScope (inPlan 23)) (by decide +kernel))
      (fun _ _ _ _ _ => pg_name (i := 3) scLampsBeside.nd rfl (Or.inl rfl)) (fun _ _ _ _ _ => pts_one (pt_cmpR op_in_seq (pv 3) (pv 2) (by rfl))) (fun _ _ _ _ _ => pv 3)) pa_nil))), ?_⟩
    refine g_ret e (P := isN (cnt s x l)) ?_ fun v H' F' x p => k v H' F' x p
    refine gv_lenN (gv_lcF (xs := besideM s.rows s.cols x) (fun y => decide (y ∈ l)) ?_ (by have := besideM_len s.rows s.cols x; omega) (fun x => rfl) (fun y H1 hy e1 => et_gv (gv_in (gv_var rfl rfl) fun H2 e2 => gv_var rfl (Stb.ex (e1.trans e2) h3))) (fun x => rfl))
    exact gv_call (C := fun (a : Nat × Nat × Nat) => Size a.1 a.2.1 ∧ a.2.2 < 1000) (Ps := fun a => [isN a.1, isN a.2.1, isN a.2.2]) (B := fun a => NL (besideM a.1 a.2.1 a.2.2)) (s.rows, s.cols, x) ⟨wf.size, hx⟩ (ga_cons (gv_rows T (gv_var rfl h1)) fun _ e1 => ga_cons (gv_cols T (gv_var rfl (Stb.ex e1 h1))) fun _ e2 => ga_one (gv_var rfl h2))
/-! ### numbers_missed -/
abbrev spMissed (C : Addr) : Sp := SpF (fun (_ : Hall × List Nat) => True) (fun a => [PlanP C a.1, NL a.2]) (fun a => NL (missed a.1 a.2))
theorem gv_missed {σ : L2.St} {H : Hp} {te ta : TE} {s : Hall} {l : List Nat} (ho : Gv te σ H (PlanP C s)) (h : ∀ H1, Ex H H1 → Gv ta σ H1 (NL l)) : Gv (tMeth C "numbers_missed" (spMissed C) [] E0 te (tCons ta tNil)) σ H (NL (missed s l)) :=
  gv_mP (Cn := fun (_ : Hall × List Nat) => True) (Ps := fun a => [PlanP C a.1, NL a.2]) (B := fun a => NL (missed a.1 a.2)) (s, l) (by unfold NoF; decide +kernel) trivial rfl ho fun H1 e1 => ga_one (h H1 e1)
theorem scMissed : FnScope ["self", "lamps", "cell"] ["self", "lamps"] (defScope (inPlan 22)) := ⟨rfl, rfl, rfl, by decide +kernel, rfl, by decide +kernel, by decide +kernel⟩
theorem told_few {s : Hall} (wf : Wf s) : (Sy85.told s).length ≤ 16 := by
  rw [told_eq wf]
  refine Nat.le_trans (List.length_filter_le _ _) ?_
  rw [List.length_map]
  exact pillars_few wf
theorem ok_missed {f : Addr} {fd : FuncData} (Fn : Fun K "numbers_missed" "Plan.numbers_missed" (inPlan 22) f fd) (T : Txt K mg C) (HN : HasM P w K mg base C "numbered" 1 ["self"] (spNumbered C)) (HB : HasM P w K mg base C "lamps_beside" 3 ["self", "cell", "lamps"] (spBesideC C)) : FnOk P w K mg base CX0 4 f fd ["self", "lamps"] (spMissed C) := by
  refine Fn.ok scMissed (fun vs H Q E h => ?_) (fun cdv A outer sh F vs Q E hr h => ?_)
  · obtain ⟨a, H0, _, _, hp, _⟩ := h
    exact allP_len hp
  · obtain ⟨⟨s, l⟩, H, _, e, hp, k⟩ := h
    obtain ⟨v1, v2, rfl, h1, h2⟩ := allP2 hp
    have wf : Wf s := wf_of h1
    have hr1 : Room 1 _ := hr.mono (by decide)
    refine ⟨_, pss_one (ps_ret (pe_lc (own := [("cell", 2)]) (g := gName 2) (tt := tTest (tOp rNe (tMeth C "lamps_beside" (spBesideC C) [] E0 (tVar 0) (tCons (tVar 2) (tCons (tVar 1) tNil))) (tDGet (tFld K (tVar 0) "pillars") (tVar 2)))) (te := tVar 2) rfl scMissed.nd
      (pi_list (pe_hasM0 (pv 0) T.cl HN hr1)) (blkOk_by (N := ["self", "lamps", "cell"]) (sc := defScope (inPlan 22)) (by decide +kernel))
      (fun _ _ _ _ _ => pg_name (i := 2) scMissed.nd rfl (Or.inl rfl)) (fun _ _ _ _ _ => pts_one (pt_cmpR op_ne (pe_hasM (pv 0) T.cl HB hr (pa_cons (pv 2) (pa_cons (pv 1) pa_nil))) (pe_dget (hu_of hr) (pe_fld (pv 0) rfl) (pv 2) (fun _ _ => rfl)) (nomark _))) (fun _ _ _ _ _ => pv 2))), ?_⟩
    refine g_ret e (P := NL (missed s l)) ?_ fun v H' F' x p => k v H' F' x p
    refine gv_lcF (xs := Sy85.told s) (fun x => !decide (cnt s x l = ((numOf s x).getD none).getD 9)) (gv_numbered (gv_var rfl h1)) (by have := told_few wf; omega) (fun x => rfl) (fun y H1 hy e1 => ?_) (fun x => rfl)
    obtain ⟨n, hn⟩ := (mem_told wf).mp hy
    have hy16 := lt16 wf.size (told_lt wf hy)
    refine et_is (et_gv (gv_op (gv_lampsBeside (by omega) (gv_var rfl (Stb.ex e1 h1)) (fun _ _ => gv_var rfl rfl) fun H2 e2 => gv_var rfl (Stb.ex (e1.trans e2) h2)) (gv_dget (gv_pil T (gv_var rfl (Stb.ex e1 h1))) (fun _ _ => gv_var rfl rfl) hn) (rv_ne rfl))) ?_
    rw [hn, v_eq]
    congr 1
    exact dec_iff (by simp; omega)
end
end La
set_option Elab.async false
set_option linter.all false
set_option maxRecDepth 100000
set_option maxHeartbeats 4000000
namespace La
open PySem PySem.Spec PyProof.Rows L2 Evl
section
variable {σ : L2.St} {H F : Hp} {te ta tb tl ty td : TE} {tt : TT} {j : Nat} {vs : List Nat} {K : PySem.W.Frag}
theorem gv_lcFL (f : List Nat → Bool) {xs : List (List Nat)} (h : Gv tl σ H (NLL xs)) (hz : xs.length ≤ 100000) (hw : ∀ x, wipe ((wipe σ vs).set j (some x)) vs = wipe σ vs)
    (ht : ∀ y x H1, y ∈ xs → Ex H H1 → NL y x H1 → EvT tt ((wipe σ vs).set j (some x)) H1 (f y)) (hj : ∀ x, ((wipe σ vs).set j (some x))[j]? = some (some x)) : Gv (tLc (iList K tl) (gName j) tt (tVar j) vs) σ H (NLL (xs.filter f)) := by
  have q := gv_lc (K := K) (tt := tt) (te := tVar j) (S := NL) (R := NL) f id h hz hw ht (fun y x H1 hy hf e hs => gv_var (hj _) hs)
  rw [List.map_id] at q
  exact q
theorem nodup_inj {α β : Type} {f : α → β} (hf : ∀ x y, f x = f y → x = y) : ∀ {l : List α}, l.Nodup → (l.map f).Nodup
  | [], _ => by simp
  | a :: l, h => by
    rw [List.nodup_cons] at h
    rw [List.map_cons, List.nodup_cons]
    refine ⟨fun m => h.1 ?_, nodup_inj hf h.2⟩
    obtain ⟨b, hb, e⟩ := List.mem_map.mp m
    rw [← hf b a e]
    exact hb
theorem valV_mem {κ : Type} [DecidableEq κ] : ∀ {kvs : List (κ × V)} {k : κ} {v : V}, (kvs.map (·.1)).Nodup → (k, v) ∈ kvs → valV kvs k = some v
  | [], k, v, _, h => by simp at h
  | p :: r, k, v, hn, h => by
    rw [List.map_cons, List.nodup_cons] at hn
    rcases List.mem_cons.mp h with rfl | h
    · exact valV_pos rfl
    · have : ¬ p.1 = k := fun e => hn.1 (by rw [e]; exact List.mem_map_of_mem (f := (·.1)) h)
      rw [valV_neg this]
      exact valV_mem hn.2 h
theorem nat_data : ∀ l : List Nat, PyData.canLayAll0 (l.map fun (n : Nat) => PyData.int (n : Int)) = true ∧ PyData.depthAll (l.map fun (n : Nat) => PyData.int (n : Int)) = 0
  | [] => ⟨by simp [PyData.canLayAll0], by simp [PyData.depthAll]⟩
  | a :: l => by
    have ih := nat_data l
    rw [List.map_cons]
    constructor
    · simp [PyData.canLayAll0, PyData.canLay0, ih.1]
    · simp [PyData.depthAll, PyData.depth, ih.2]
theorem nat_shaped (l : List Nat) : SeqAt.shaped (.list (l.map fun (n : Nat) => PyData.int (n : Int))) = true := by
  unfold SeqAt.shaped
  have h := nat_data l
  simp [PyData.canLay0, PyData.depth, h.1, h.2]
theorem nat_eqv : ∀ l m : List Nat, PyData.eqvAll (l.map fun (n : Nat) => PyData.int (n : Int)) (m.map fun (n : Nat) => PyData.int (n : Int)) = decide (l = m)
  | [], [] => by simp [PyData.eqvAll]
  | [], _ :: _ => by simp [PyData.eqvAll]
  | _ :: _, [] => by simp [PyData.eqvAll]
  | a :: r, b :: t => by
    simp only [List.map_cons, PyData.eqvAll, PyData.eqv, nat_eqv r t]
    by_cases h : a = b
    · by_cases h' : r = t <;> simp [h, h']
    · have : ¬ ((a : Int) = (b : Int)) := by omega
      by_cases h' : r = t <;> simp [h, h', this]
theorem dp_nats {H : Hp} : ∀ l : List Nat, DpAll K H (l.map nv) (l.map fun (n : Nat) => PyData.int (n : Int))
  | [] => .nil
  | a :: l => .cons (.int _) (dp_nats l)
theorem gv_neL {l m : List Nat} (ha : Gv ta σ H (NL l)) (hb : ∀ H1, Ex H H1 → Gv tb σ H1 (NL m)) : Gv (tOp (rNeD K) ta tb) σ H (isB (!decide (l = m))) := fun F e Q q =>
  ha F e _ fun v H1 F1 x ⟨a, hv, hl⟩ => hb H1 x.k F1 x.s _ fun u H2 F2 y ⟨b, hu, hm⟩ => by
    subst hv hu
    refine ⟨_, _, .lst (sq_of (y.s a _ (y.k a _ hl))) (dp_nats l), .lst (sq_of (y.s b _ hm)) (dp_nats m), nat_shaped l, nat_shaped m, ?_⟩
    have e : PyData.eqv (.list (l.map fun (n : Nat) => PyData.int (n : Int))) (.list (m.map fun (n : Nat) => PyData.int (n : Int))) = decide (l = m) := by
      rw [PyData.eqv, nat_eqv]
    rw [e]
    exact q _ H2 F2 (x.trans y) rfl
end
section
variable {P : Program} {w : World} {K : PySem.W.Frag} {mg : Str → Option Value} {base : Heap} {C : Addr}
/-! ### ways_among -/
abbrev spWays (C : Addr) : Sp := SpF (fun (a : Hall × List (List Nat)) => a.2.length ≤ 100000) (fun a => [PlanP C a.1, NLL a.2]) (fun a => NLL (a.2.filter (Sy85.counted a.1)))
theorem gv_ways {σ : L2.St} {H : Hp} {te ta : TE} {s : Hall} {t : List (List Nat)} (ht : t.length ≤ 100000) (ho : Gv te σ H (PlanP C s)) (h : ∀ H1, Ex H H1 → Gv ta σ H1 (NLL t)) : Gv (tMeth C "ways_among" (spWays C) [] E0 te (tCons ta tNil)) σ H (NLL (t.filter (Sy85.counted s))) :=
  gv_mP (Cn := fun (a : Hall × List (List Nat)) => a.2.length ≤ 100000) (Ps := fun a => [PlanP C a.1, NLL a.2]) (B := fun a => NLL (a.2.filter (Sy85.counted a.1))) (s, t) (by unfold NoF; decide +kernel) ht rfl ho fun H1 e1 => ga_one (h H1 e1)
theorem scWays : FnScope ["self", "found", "lamps"] ["self", "found"] (defScope (inPlan 19)) := ⟨rfl, rfl, rfl, by decide +kernel, rfl, by decide +kernel, by decide +kernel⟩
theorem ok_ways {f : Addr} {fd : FuncData} (Fn : Fun K "ways_among" "Plan.ways_among" (inPlan 19) f fd) (T : Txt K mg C) (HN : HasM P w K mg base C "numbers_missed" 4 ["self", "lamps"] (spMissed C)) : FnOk P w K mg base CX0 5 f fd ["self", "found"] (spWays C) := by
  refine Fn.ok scWays (fun vs H Q E h => ?_) (fun cdv A outer sh F vs Q E hr h => ?_)
  · obtain ⟨a, H0, _, _, hp, _⟩ := h
    exact allP_len hp
  · obtain ⟨⟨s, t⟩, H, hl, e, hp, k⟩ := h
    obtain ⟨v1, v2, rfl, h1, h2⟩ := allP2 hp
    have wf : Wf s := wf_of h1
    refine ⟨_, pss_one (ps_ret (pe_lc (own := [("lamps", 2)]) (g := gName 2) (tt := tTest (tOp rEq (tCB (rLenS K) (tCons (tMeth C "numbers_missed" (spMissed C) [] E0 (tVar 0) (tCons (tVar 2) tNil)) tNil)) (tC (.int 0)))) (te := tVar 2) rfl scWays.nd
      (pi_list (pv 1)) (blkOk_by (N := ["self", "found", "lamps"]) (sc := defScope (inPlan 19)) (by decide +kernel))
      (fun _ _ _ _ _ => pg_name (i := 2) scWays.nd rfl (Or.inl rfl)) (fun _ _ _ _ _ => pts_one (pt_cmpR op_eq (pe_callB call_len_seq (by rfl) T.b.len boot_len (pa_cons (pe_hasM (pv 0) T.cl HN hr (pa_cons (pv 2) pa_nil)) pa_nil)) pe_int (nomark _))) (fun _ _ _ _ _ => pv 2))), ?_⟩
    refine g_ret e (P := NLL (t.filter (Sy85.counted s))) ?_ fun v H' F' x p => k v H' F' x p
    refine gv_lcFL (xs := t) (Sy85.counted s) (gv_var rfl h2) hl (fun x => rfl) (fun y x H1 hy e1 hs => ?_) (fun x => rfl)
    refine et_is (et_gv (gv_op (gv_lenN (gv_missed (s := s) (l := y) (gv_var rfl (Stb.ex e1 h1)) fun H2 e2 => gv_var rfl (Stb.ex e2 hs))) gv_c (rv_eq rfl))) ?_
    rw [v_eq, ← missed_counted wf]
    exact dec_iff (by omega)
/-! ### keeps_marks -/
abbrev spKeeps (C : Addr) : Sp := SpF (fun (_ : Hall × List Nat) => True) (fun a => [PlanP C a.1, NL a.2]) (fun a => isB (Sy85.marked a.1 a.2))
theorem gv_keeps {σ : L2.St} {H : Hp} {te ta : TE} {s : Hall} {l : List Nat} (ho : Gv te σ H (PlanP C s)) (h : ∀ H1, Ex H H1 → Gv ta σ H1 (NL l)) : Gv (tMeth C "keeps_marks" (spKeeps C) [] E0 te (tCons ta tNil)) σ H (isB (Sy85.marked s l)) :=
  gv_mP (Cn := fun (_ : Hall × List Nat) => True) (Ps := fun a => [PlanP C a.1, NL a.2]) (B := fun a => isB (Sy85.marked a.1 a.2)) (s, l) (by unfold NoF; decide +kernel) trivial rfl ho fun H1 e1 => ga_one (h H1 e1)
abbrev nKeeps : List Str := ["self", "lamps", "cell", "how"]
theorem scKeeps : FnScope nKeeps ["self", "lamps"] (defScope (inPlan 24)) := ⟨rfl, rfl, rfl, by decide +kernel, rfl, by decide +kernel, by decide +kernel⟩
theorem ok_keeps {f : Addr} {fd : FuncData} (Fn : Fun K "keeps_marks" "Plan.keeps_marks" (inPlan 24) f fd) (T : Txt K mg C) : FnOk P w K mg base CX0 1 f fd ["self", "lamps"] (spKeeps C) := by
  refine Fn.ok scKeeps (fun vs H Q E h => ?_) (fun cdv A outer sh F vs Q E hr h => ?_)
  · obtain ⟨a, H0, _, _, hp, _⟩ := h
    exact allP_len hp
  · obtain ⟨⟨s, l⟩, H, _, e, hp, k⟩ := h
    obtain ⟨v1, v2, rfl, h1, h2⟩ := allP2 hp
    have wf : Wf s := wf_of h1
    refine ⟨_, pss_cons (ps_lock (ps_for PassesOwn.never rfl (pi_items (pe_fld (pv 0) rfl)) (pg_tup rfl (pgs_cons (pg_name (i := 2) scKeeps.nd rfl (Or.inl rfl)) (pgs_cons (pg_name (i := 3) scKeeps.nd rfl (Or.inl rfl)) pgs_nil)))
        (pss_one (ps_if (pt_cmpR op_ne (pe_cmpR op_in_seq (pv 2) (pv 1) (by rfl)) (pe_cmpR op_eq (pv 3) (pe_const T.cWith) (nomark _)) (nomark _)) (pss_one (ps_ret pe_bl)) pss_nil))))
      (pss_one (ps_ret pe_bl)), ?_⟩
    obtain ⟨a, dx, dp, dm, kp, km, g1, g2, g3, g4, g5, g6, g7, _⟩ := h1
    obtain ⟨b, b1, b2⟩ := h2
    subst g1 b1
    have f2 := e a _ g2
    have f4 := e dm _ g4
    have fb := e b _ b2
    have ham : a ≠ dm := ne_of f2 f4 (by intro z; cases z)
    have hbm : b ≠ dm := ne_of fb f4 (by intro z; cases z)
    obtain ⟨ks, k1, k2, k3⟩ := g7.keys
    have hkl : km.length = ks.length := by
      have := congrArg List.length k2
      simpa using this
    have hnd : (km.map (·.1)).Nodup := by
      rw [k2]
      exact nodup_inj (fun x y h => by injection h) (nodup_inj (f := fun (n : Nat) => (n : Int)) (fun x y h => Int.natCast_inj.mp h) k1)
    refine ⟨dm, .dK km, f4, trivial, fun od => ?_⟩
    refine ⟨_, rfl, a, C, dx, _, _, rfl, (upd_ne ham).trans f2, T.cl, T.nM, pl_mrk .., dm, od, km, rfl, upd_same, ?_⟩
    have back : ∀ F' : Hp, (∀ c o, c ≠ dm → F c = some o → F' c = some o) → Ex F (upd F' dm (.dK km)) := by
      intro F' h c o hc
      by_cases q : c = dm
      · subst q
        rw [f4] at hc
        rw [← hc]
        exact upd_same
      · rw [upd_ne q]
        exact h c o q hc
    refine for_it walk_items (fun i σ' F' => ∃ v3 v4, σ' = [some (.ref a), some (.ref b), v3, v4] ∧ (∀ c o, c ≠ dm → F c = some o → F' c = some o) ∧ F' dm = some (.frz od (.dK km)) ∧ ∀ n ∈ ks.take i, decide (n ∈ l) = decide (n ∈ s.lamps))
      ⟨none, none, rfl, fun c o hc h => (upd_ne hc).trans h, upd_same, by simp⟩ (fun i σ' F' _ ⟨_, _, _, _, h, _⟩ => h) ?_ ?_
    · rintro i x σ' F' F2 hi ⟨a3, a4, rfl, q1, q2, q3⟩ ⟨t, x1, y1, rfl, ht, rfl, hx1, hy1⟩
      obtain ⟨kv, hkv⟩ : ∃ kv, km[i]? = some kv := ⟨_, List.getElem?_eq_getElem hi⟩
      dsimp only at hx1 hy1
      rw [hkv] at hx1 hy1
      obtain rfl : kV kv.1 = x1 := Option.some.inj hx1
      obtain rfl : kv.2 = y1 := Option.some.inj hy1
      obtain ⟨n, hn⟩ : ∃ n, ks[i]? = some n := ⟨_, List.getElem?_eq_getElem (by omega)⟩
      have hk1 : kv.1 = Sum.inl (n : Int) := by
        have e1 : (km.map (·.1))[i]? = some kv.1 := by rw [List.getElem?_map, hkv]; rfl
        rw [k2, List.getElem?_map, List.getElem?_map, hn] at e1
        exact (Option.some.inj e1).symm
      have hnm := (k3 n).mp (List.mem_of_getElem? hn)
      have hval := valV_mem hnd (List.mem_of_getElem? hkv : (kv.1, kv.2) ∈ km)
      rw [hk1, g7.val n] at hval
      have htd : t ≠ dm := fun q => by
        subst q
        rw [q2] at ht
        cases ht
      have hbt : F' b = some (.lst (l.map nv)) := q1 b _ hbm fb
      have hv2 : kv.2 = nv (if n ∈ s.lamps then 1 else 2) := by
        by_cases hl : n ∈ s.lamps
        · rw [if_pos hl] at hval
          rw [if_pos hl]
          exact (Option.some.inj hval).symm
        · rw [if_neg hl, if_pos (hnm.resolve_left hl)] at hval
          rw [if_neg hl]
          exact (Option.some.inj hval).symm
      refine ⟨t, _, rfl, st_of upd_same, rfl, _, _, rfl, _, _, rfl, rfl, ?_⟩
      have hbt2 : upd F' t (.tup [kV kv.1, kv.2]) b = some (.lst (l.map nv)) := (upd_ne (ne_of_none hbt ht)).trans hbt
      rw [hk1, hv2]
      rw [hk1, hv2] at hbt2
      generalize hF2 : upd F' t (.tup [kV (Sum.inl (n : Int)), nv (if n ∈ s.lamps then 1 else 2)]) = F2 at *
      have keep2 : ∀ c o, c ≠ dm → F c = some o → F2 c = some o := fun c o hc h => by
        rw [← hF2, upd_ne (ne_of_none (q1 c o hc h) ht)]
        exact q1 c o hc h
      have dm2 : F2 dm = some (.frz od (.dK km)) := by
        rw [← hF2, upd_ne (fun q => htd q.symm)]
        exact q2
      show tIfS _ _ _ _ [some (.ref a), some (.ref b), some (nv n), some (nv (if n ∈ s.lamps then 1 else 2))] F2
      refine g_if (H := F2) (b := !decide (decide (n ∈ l) = decide (n ∈ s.lamps))) (Ex.refl F2) (et_is (et_gv (gv_op (gv_in (n := n) (l := l) (gv_var rfl rfl) fun H2 e2 => gv_var rfl ⟨b, rfl, e2 b _ hbt2⟩) (gv_op (gv_var rfl rfl) gv_c (rv_eq rfl)) (rv_ne rfl))) ?_) (fun hb F3 e3 => ?_) (fun hb F3 e3 => ?_)
      · rw [v_eq]
        by_cases hl : n ∈ s.lamps
        · by_cases h2 : n ∈ l <;> simp [hl, h2]
        · by_cases h2 : n ∈ l <;> simp [hl, h2]
      · have ne : ¬ (decide (n ∈ l) = decide (n ∈ s.lamps)) := by simpa using hb
        refine ⟨e3 dm _ dm2, k _ H _ (Ext.same e (back F3 fun c o hc h => e3 c o (keep2 c o hc h))) ?_⟩
        have : Sy85.marked s l = false := by
          rw [← Bool.not_eq_true, marked_iff wf]
          exact fun h => ne (h n hnm)
        show V.bl false = V.bl (Sy85.marked s l)
        rw [this]
      · have eq : decide (n ∈ l) = decide (n ∈ s.lamps) := by simpa using hb
        refine ⟨_, _, rfl, fun c o hc h => e3 c o (keep2 c o hc h), e3 dm _ dm2, fun z hz => ?_⟩
        rw [take_snoc hn] at hz
        rcases List.mem_append.mp hz with h | h
        · exact q3 z h
        · have : z = n := by simpa using h
          rw [this]
          exact eq
    · rintro σ' F' ⟨a3, a4, rfl, q1, q2, q3⟩
      refine ⟨q2, k _ H _ (Ext.same e (back F' q1)) ?_⟩
      have : Sy85.marked s l = true := by
        rw [marked_iff wf]
        intro n hn
        refine q3 n ?_
        rw [hkl, List.take_length]
        exact (k3 n).mpr hn
      show V.bl true = V.bl (Sy85.marked s l)
      rw [this]
end
end La
set_option Elab.async false
set_option linter.all false
set_option maxRecDepth 100000
set_option maxHeartbeats 4000000
namespace La
open PySem PySem.Spec PyProof.Rows L2 Evl
theorem settings_len {s : Hall} (w : Wf s) : (Sy85.settings s).length ≤ 65536 := by
  rw [← settings_eq w.size]
  unfold allSettings
  rw [List.length_map]
  refine Nat.le_trans (List.length_filter_le _ _) (Nat.le_trans (begun_len _) ?_)
  exact Nat.pow_le_pow_right (by decide) (freeM_len w.size) (n := 2)
theorem setting_short {s : Hall} (w : Wf s) {p : List Nat} (h : p ∈ Sy85.settings s) : p.length ≤ 16 := by
  have S := (mem_settings w.size).mp h
  exact few (rise_nodup S.rise) fun n hn => lt16 w.size (mem_free.mp (S.free n hn)).1
section
variable {P : Program} {w : World} {K : PySem.W.Frag} {mg : Str → Option Value} {base : Heap} {C : Addr}
/-! ### open_among -/
abbrev spAmong (C : Addr) : Sp := SpF (fun (a : Hall × List (List Nat)) => a.2.length ≤ 100000) (fun a => [PlanP C a.1, NLL a.2]) (fun a => NLL (a.2.filter (Sy85.marked a.1)))
theorem gv_among {σ : L2.St} {H : Hp} {te ta : TE} {s : Hall} {t : List (List Nat)} (ht : t.length ≤ 100000) (ho : Gv te σ H (PlanP C s)) (h : ∀ H1, Ex H H1 → Gv ta σ H1 (NLL t)) : Gv (tMeth C "open_among" (spAmong C) [] E0 te (tCons ta tNil)) σ H (NLL (t.filter (Sy85.marked s))) :=
  gv_mP (Cn := fun (a : Hall × List (List Nat)) => a.2.length ≤ 100000) (Ps := fun a => [PlanP C a.1, NLL a.2]) (B := fun a => NLL (a.2.filter (Sy85.marked a.1))) (s, t) (by unfold NoF; decide +kernel) ht rfl ho fun H1 e1 => ga_one (h H1 e1)
theorem scAmong : FnScope ["self", "ways", "lamps"] ["self", "ways"] (defScope (inPlan 20)) := ⟨rfl, rfl, rfl, by decide +kernel, rfl, by decide +kernel, by decide +kernel⟩
theorem ok_among {f : Addr} {fd : FuncData} (Fn : Fun K "open_among" "Plan.open_among" (inPlan 20) f fd) (T : Txt K mg C) (HK : HasM P w K mg base C "keeps_marks" 1 ["self", "lamps"] (spKeeps C)) : FnOk P w K mg base CX0 2 f fd ["self", "ways"] (spAmong C) := by
  refine Fn.ok scAmong (fun vs H Q E h => ?_) (fun cdv A outer sh F vs Q E hr h => ?_)
  · obtain ⟨a, H0, _, _, hp, _⟩ := h
    exact allP_len hp
  · obtain ⟨⟨s, t⟩, H, hl, e, hp, k⟩ := h
    obtain ⟨v1, v2, rfl, h1, h2⟩ := allP2 hp
    refine ⟨_, pss_one (ps_ret (pe_lc (own := [("lamps", 2)]) (g := gName 2) (tt := tB (tMeth C "keeps_marks" (spKeeps C) [] E0 (tVar 0) (tCons (tVar 2) tNil))) (te := tVar 2) rfl scAmong.nd
      (pi_list (pv 1)) (blkOk_by (N := ["self", "ways", "lamps"]) (sc := defScope (inPlan 20)) (by decide +kernel))
      (fun _ _ _ _ _ => pg_name (i := 2) scAmong.nd rfl (Or.inl rfl)) (fun _ _ _ _ _ => pts_one (pt_val (pe_hasM (pv 0) T.cl HK hr (pa_cons (pv 2) pa_nil)))) (fun _ _ _ _ _ => pv 2))), ?_⟩
    refine g_ret e (P := NLL (t.filter (Sy85.marked s))) ?_ fun v H' F' x p => k v H' F' x p
    refine gv_lcFL (xs := t) (Sy85.marked s) (gv_var rfl h2) hl (fun x => rfl) (fun y x H1 hy e1 hs => ?_) (fun x => rfl)
    exact et_gvB (gv_keeps (s := s) (l := y) (gv_var rfl (Stb.ex e1 h1)) fun H2 e2 => gv_var rfl (Stb.ex e2 hs))
/-! ### open_ways -/
abbrev spOpen (C : Addr) : Sp := SpF (fun (_ : Hall) => True) (fun s => [PlanP C s]) (fun s => NLL (Sy85.open_ s))
theorem gv_open {σ : L2.St} {H : Hp} {te : TE} {s : Hall} (ho : Gv te σ H (PlanP C s)) : Gv (tMeth C "open_ways" (spOpen C) [] E0 te tNil) σ H (NLL (Sy85.open_ s)) :=
  gv_mP (Cn := fun (_ : Hall) => True) (Ps := fun s => [PlanP C s]) (B := fun s => NLL (Sy85.open_ s)) s (by unfold NoF; decide +kernel) trivial rfl ho fun _ _ => ga_nil
theorem scOpen : FnScope ["self"] ["self"] (defScope (inPlan 21)) := ⟨rfl, rfl, rfl, by decide +kernel, rfl, by decide +kernel, by decide +kernel⟩
theorem ways_len {s : Hall} (wf : Wf s) : ((Sy85.settings s).filter (Sy85.counted s)).length ≤ 65536 := Nat.le_trans (List.length_filter_le _ _) (settings_len wf)
theorem ok_open {f : Addr} {fd : FuncData} (Fn : Fun K "open_ways" "Plan.open_ways" (inPlan 21) f fd) (T : Txt K mg C) (HA : HasM P w K mg base C "open_among" 2 ["self", "ways"] (spAmong C)) (HW : HasM P w K mg base C "ways_among" 5 ["self", "found"] (spWays C)) (HS : HasM P w K mg base C "settings" 4 ["self"] (spSettings C)) : FnOk P w K mg base CX0 6 f fd ["self"] (spOpen C) := by
  refine Fn.ok scOpen (fun vs H Q E h => ?_) (fun cdv A outer sh F vs Q E hr h => ?_)
  · obtain ⟨a, H0, _, _, hp, _⟩ := h
    exact allP_len hp
  · obtain ⟨s, H, _, e, hp, k⟩ := h
    obtain ⟨v1, rfl, h1⟩ := allP1 hp
    have wf : Wf s := wf_of h1
    have s1 := settings_len wf
    have s2 := ways_len wf
    refine ⟨_, pss_one (ps_ret (pe_hasM (pv 0) T.cl HA (hr.mono (by decide)) (pa_cons (pe_hasM (pv 0) T.cl HW hr (pa_cons (pe_hasM0 (pv 0) T.cl HS (hr.mono (by decide))) pa_nil)) pa_nil))), ?_⟩
    refine g_ret e (P := NLL (Sy85.open_ s)) ?_ fun v H' F' x p => k v H' F' x p
    exact gv_among (show ((Sy85.settings s).filter (Sy85.counted s)).length ≤ 100000 by omega) (gv_var rfl h1) fun H1 e1 => gv_ways (by omega) (gv_var rfl (Stb.ex e1 h1)) fun H2 e2 => gv_settings (gv_var rfl (Stb.ex (e1.trans e2) h1))
/-! ### first_wrong -/
abbrev spWrong (C : Addr) : Sp := SpF (fun (a : Hall × List Nat) => a.2.length ≤ 100000) (fun a => [PlanP C a.1, NL a.2]) (fun a => isN (Sy85.fault a.1 a.2))
theorem gv_wrong {σ : L2.St} {H : Hp} {te ta : TE} {s : Hall} {l : List Nat} (hl : l.length ≤ 100000) (ho : Gv te σ H (PlanP C s)) (h : ∀ H1, Ex H H1 → Gv ta σ H1 (NL l)) : Gv (tMeth C "first_wrong" (spWrong C) [] E0 te (tCons ta tNil)) σ H (isN (Sy85.fault s l)) :=
  gv_mP (Cn := fun (a : Hall × List Nat) => a.2.length ≤ 100000) (Ps := fun a => [PlanP C a.1, NL a.2]) (B := fun a => isN (Sy85.fault a.1 a.2)) (s, l) (by unfold NoF; decide +kernel) hl rfl ho fun H1 e1 => ga_one (h H1 e1)
theorem scWrong : FnScope ["self", "cells"] ["self", "cells"] (defScope (inPlan 25)) := ⟨rfl, rfl, rfl, by decide +kernel, rfl, by decide +kernel, by decide +kernel⟩
theorem ok_wrong {f : Addr} {fd : FuncData} (Fn : Fun K "first_wrong" "Plan.first_wrong" (inPlan 25) f fd) (T : Txt K mg C) (HA : HasM P w K mg base C "all_free" 2 ["self", "cells"] (spAllFree C)) (HO : Has P w K mg base "is_lit_by_another" 3 ["rows", "columns", "pillars", "lamps"] spIsLit)
    (HL : Has P w K mg base "lit_by" 3 ["rows", "columns", "pillars", "lamps"] spLitBy) (HF : HasM P w K mg base C "free_cells" 1 ["self"] (spFree C)) (HN : HasM P w K mg base C "numbers_missed" 4 ["self", "lamps"] (spMissed C)) : FnOk P w K mg base CX0 5 f fd ["self", "cells"] (spWrong C) := by
  refine Fn.ok scWrong (fun vs H Q E h => ?_) (fun cdv A outer sh F vs Q E hr h => ?_)
  · obtain ⟨a, H0, _, _, hp, _⟩ := h
    exact allP_len hp
  · obtain ⟨⟨s, l⟩, H, hl, e, hp, k⟩ := h
    replace hl : l.length ≤ 100000 := hl
    obtain ⟨v1, v2, rfl, h1, h2⟩ := allP2 hp
    have wf : Wf s := wf_of h1
    have hr3 : Room 3 _ := hr.mono (by decide)
    refine ⟨_, pss_cons (ps_if (pt_not (pt_val (pe_hasM (pv 0) T.cl HA (hr.mono (by decide)) (pa_cons (pv 1) pa_nil)))) (pss_one (ps_ret (pe_const T.cNotOn))) pss_nil)
      (pss_cons (ps_if (pt_val (pe_has HO hr3 (by rfl) (pa_cons (pe_fld (pv 0) rfl) (pa_cons (pe_fld (pv 0) rfl) (pa_cons (pe_fld (pv 0) rfl) (pa_cons (pv 1) pa_nil)))))) (pss_one (ps_ret (pe_const T.cLit))) pss_nil)
      (pss_cons (ps_if (pt_cmpR (op_neD hr.units) (pe_has HL hr3 (by rfl) (pa_cons (pe_fld (pv 0) rfl) (pa_cons (pe_fld (pv 0) rfl) (pa_cons (pe_fld (pv 0) rfl) (pa_cons (pv 1) pa_nil))))) (pe_hasM0 (pv 0) T.cl HF (hr.mono (by decide))) (nomark _)) (pss_one (ps_ret (pe_const T.cDark))) pss_nil)
      (pss_cons (ps_if (pt_cmpR op_gt (pe_callB call_len_seq (by rfl) T.b.len boot_len (pa_cons (pe_hasM (pv 0) T.cl HN hr (pa_cons (pv 1) pa_nil)) pa_nil)) pe_int (nomark _)) (pss_one (ps_ret (pe_const T.cMissed))) pss_nil)
      (pss_one (ps_ret (pe_const T.cIs)))))), ?_⟩
    refine g_ifRet (H := H) e (P := isI 1) (b := !allFree s l) (et_not (et_gvB (gv_allFree (s := s) hl (gv_var rfl h1) fun H1 e1 => gv_var rfl (Stb.ex e1 h2)))) (fun _ => gv_c) (fun hb v H' F' x p => ?_) fun hb F1 x1 => ?_
    · refine k v H' F' x ?_
      have : allFreeM s l = false := (Bool.not_eq_true' _).mp hb
      show v = nv (Sy85.fault s l)
      rw [fault_1 this]
      exact p
    have hfree : allFreeM s l = true := (Bool.not_eq_false' (b := allFreeM s l)).mp hb
    have hmem := allFree_iff.mp hfree
    have hlt : ∀ x ∈ l, x < s.rows * s.cols := fun x hx => (mem_free.mp (hmem x hx)).1
    have ha : ∀ H1, Ex H H1 → GvA (tCons (tFld K (tVar 0) "rows") (tCons (tFld K (tVar 0) "columns") (tCons (tFld K (tVar 0) "pillars") (tCons (tVar 1) tNil)))) (L2.start ["self", "cells"] [v1, v2]) H1 [isN s.rows, isN s.cols, PD (Sy85.isPillar s), NL l] := fun H1 e1 =>
      ga_cons (gv_rows T (gv_var rfl (Stb.ex e1 h1))) fun _ e2 => ga_cons (gv_cols T (gv_var rfl (Stb.ex (e1.trans e2) h1))) fun _ e3 => ga_cons (gv_pd T (gv_var rfl (Stb.ex ((e1.trans e2).trans e3) h1))) fun _ e4 => ga_one (gv_var rfl (Stb.ex (((e1.trans e2).trans e3).trans e4) h2))
    refine g_ifRet (H := H) x1.s (P := isI 2) (b := litOther s l) (et_gvB (gv_isLit wf.size hl (fun x hx => by have := lt16 wf.size (hlt x hx); omega) (ha H (Ex.refl H)))) (fun _ => gv_c) (fun hb v H' F' x p => ?_) fun hb2 F2 x2 => ?_
    · refine k v H' F' (x1.trans x) ?_
      show v = nv (Sy85.fault s l)
      rw [fault_2 wf hfree hb]
      exact p
    refine g_ifRet (H := H) x2.s (P := isI 3) (b := !decide (litAll s l = Sy85.free s)) (et_gv (gv_neL (l := litAll s l) (gv_litBy wf.size hlt (ha H (Ex.refl H))) fun H1 e1 => gv_free (gv_var rfl (Stb.ex e1 h1)))) (fun _ => gv_c) (fun hb v H' F' x p => ?_) fun hb3 F3 x3 => ?_
    · refine k v H' F' ((x1.trans x2).trans x) ?_
      have : ¬ litAll s l = Sy85.free s := by simpa using hb
      show v = nv (Sy85.fault s l)
      rw [fault_3 wf hfree hb2 this]
      exact p
    have hlit : litAll s l = Sy85.free s := by simpa using hb3
    refine g_ifRet (H := H) x3.s (P := isI 4) (b := decide (0 < (missed s l).length)) (et_is (et_gv (gv_I0 (gv_lenN (gv_missed (s := s) (l := l) (gv_var rfl h1) fun H1 e1 => gv_var rfl (Stb.ex e1 h2))) gv_c)) (dec_iff (by omega))) (fun _ => gv_c) (fun hb v H' F' x p => ?_) fun hb4 F4 x4 => ?_
    · refine k v H' F' (((x1.trans x2).trans x3).trans x) ?_
      show v = nv (Sy85.fault s l)
      rw [fault_4 wf hfree hb2 hlit (of_decide_eq_true hb)]
      exact p
    refine g_ret x4.s (P := isI 0) gv_c fun v H' F' x p => k v H' F' ((((x1.trans x2).trans x3).trans x4).trans x) ?_
    show v = nv (Sy85.fault s l)
    rw [fault_0 wf hfree hb2 hlit (of_decide_eq_false hb4)]
    exact p
end
end La
set_option Elab.async false
set_option linter.all false
set_option maxRecDepth 100000
set_option maxHeartbeats 4000000
namespace La
open PySem PySem.Spec PyProof.Rows L2 Evl
theorem out_lists (n : Nat) (rs : List (List Nat)) : Sy85Neutral.out ⟨(n : Nat), rs.map Sy85.ints⟩ = (answerOf (n, rs)).map fun (x : Nat) => (x : Int) := by
  unfold Sy85Neutral.out
  simp only [answerOf, List.map_cons, List.map_flatMap, List.flatMap_map]
  congr 1
  apply flatMap_congr
  intro r _
  show ((Sy85.ints r).length : Int) :: Sy85.ints r = _
  unfold Sy85.ints
  rw [List.length_map]
section
variable {σ : L2.St} {H F : Hp} {te ta tb tl ty td : TE} {tt : TT} {K : PySem.W.Frag}
theorem nl_il {l : List Nat} {m : List Int} {v : V} (h : NL l v H) (e : m = l.map fun (x : Nat) => (x : Int)) : IL m v H := by
  obtain ⟨a, h1, h2⟩ := h
  refine ⟨a, h1, ?_⟩
  rw [h2, e, List.map_map]
  rfl
theorem gv_int1 {i : Int} (h : Gv te σ H (isI i)) : Gv (tLst (tCons te tNil)) σ H (IL [i]) := by
  refine (gv_lst (R := isI) (xs := [i]) (ga_one h) (by show 1 ≤ 100000; decide)).imp fun v H1 _ p => ?_
  obtain ⟨a, us, h1, h2, h3⟩ := p
  exact ⟨a, h1, by rw [h2, (pr_map (f := V.int)).mp h3]⟩
theorem gv_item {xs : List (List Nat)} {y : List Nat} {k : Nat} (h : Gv te σ H (NLL xs)) (hk : ∀ H1, Ex H H1 → Gv tb σ H1 (isN k)) (hy : xs[k]? = some y) : Gv (tOp (rIxL K) te tb) σ H (NL y) := fun F e Q q =>
  h F e _ fun v H1 F1 x ⟨a, us, hv, ha, hp⟩ => hk H1 x.k F1 x.s _ fun u H2 F2 z hu => by
    obtain rfl : u = nv k := hu
    obtain ⟨w, hw, hyw⟩ := pr_get hp hy
    exact ⟨a, us, _, w, hv, rfl, sq_of (z.s a _ (z.k a _ ha)), atI_nat hw, q _ H2 F2 (x.trans z) (Stb.ex z.k hyw)⟩
theorem refs_of : ∀ {xs : List (List Nat)} {us : List V}, Paired (fun x u => NL x u H) xs us → ∃ ps : List Addr, us = ps.map V.ref
  | _, _, .nil => ⟨[], rfl⟩
  | _, _, .cons f t => by
    obtain ⟨b, rfl, _⟩ := f
    obtain ⟨ps, rfl⟩ := refs_of t
    exact ⟨b :: ps, rfl⟩
/-- the least of several lists by their length -/
theorem gv_min {xs : List (List Nat)} (h : Gv te σ H (NLL xs)) (h0 : 0 < xs.length) {P' : VP} (hp : ∀ (i : Nat) (ch : List Nat) (v : V) (H1 : Hp), Ex H H1 → xs[i]? = some ch → (∀ (j : Nat) (c : List Nat), xs[j]? = some c → ch.length ≤ c.length ∧ (j < i → ch.length < c.length)) → NL ch v H1 → P' v H1) : Gv (tMinLen K (tCons te tNil)) σ H P' := fun F e Q q =>
  h F e _ fun v H1 F1 x ⟨a, us, hv, ha, hu⟩ => by
    obtain ⟨ps, rfl⟩ := refs_of hu
    have hl : xs.length = ps.length := by rw [pr_len hu, List.length_map]
    have at_ : ∀ (i : Nat) (p : Addr), ps[i]? = some p → ∃ y : List Nat, xs[i]? = some y ∧ H1 p = some (.lst (y.map nv)) := by
      intro i p hp
      obtain ⟨y, h1, b, hb, h2⟩ := pr_at hu (show (ps.map V.ref)[i]? = some (V.ref p) by rw [List.getElem?_map, hp]; rfl)
      cases hb
      exact ⟨y, h1, h2⟩
    subst hv
    refine ⟨a, ps, fun i => ((xs[i]?).getD []).length, rfl, sq_of (x.s a _ ha), by omega, fun i p hi => ?_, fun i p hi hb => ?_⟩
    · obtain ⟨y, h1, h2⟩ := at_ i p hi
      refine ⟨_, sq_of (x.s p _ h2), ?_⟩
      dsimp only
      rw [h1, List.length_map]
      rfl
    · obtain ⟨y, h1, h2⟩ := at_ i p hi
      refine q _ H1 F1 x (hp i y _ H1 x.k h1 (fun j c hj => ?_) ⟨p, rfl, h2⟩)
      have := hb j (by have := (List.getElem?_eq_some_iff.mp hj).1; omega)
      dsimp only at this
      rw [h1, hj] at this
      exact this
end
section
variable {P : Program} {w : World} {K : PySem.W.Frag} {mg : Str → Option Value} {base : Heap} {C : Addr}
theorem in_open {s : Hall} {p : List Nat} (h : p ∈ Sy85.open_ s) : p ∈ Sy85.settings s := (List.mem_filter.mp (List.mem_filter.mp h).1).1
theorem open_len {s : Hall} (wf : Wf s) : (Sy85.open_ s).length ≤ 65536 := Nat.le_trans (List.length_filter_le _ _) (ways_len wf)
/-! ### many -/
abbrev spMany (C : Addr) : Sp := SpF (fun (_ : Hall) => True) (fun s => [PlanP C s]) (fun s => IL (ansOf s .many))
theorem scMany : FnScope ["self", "found", "ways"] ["self"] (defScope (inPlan 5)) := ⟨rfl, rfl, rfl, by decide +kernel, rfl, by decide +kernel, by decide +kernel⟩
theorem ok_many {f : Addr} {fd : FuncData} (Fn : Fun K "many" "Plan.many" (inPlan 5) f fd) (T : Txt K mg C) (HS : HasM P w K mg base C "settings" 4 ["self"] (spSettings C)) (HW : HasM P w K mg base C "ways_among" 5 ["self", "found"] (spWays C)) (HA : HasM P w K mg base C "open_among" 2 ["self", "ways"] (spAmong C)) (HL : Has P w K mg base "with_lists" 1 ["number", "rows"] spLists) : FnOk P w K mg base CX0 6 f fd ["self"] (spMany C) := by
  refine Fn.ok scMany (fun vs H Q E h => ?_) (fun cdv A outer sh F vs Q E hr h => ?_)
  · obtain ⟨a, H0, _, _, hp, _⟩ := h
    exact allP_len hp
  · obtain ⟨s, H, _, e, hp, k⟩ := h
    obtain ⟨v1, rfl, h1⟩ := allP1 hp
    have wf : Wf s := wf_of h1
    have s1 := settings_len wf
    have s2 := ways_len wf
    refine ⟨_, pss_cons (ps_set (i := 1) scMany.nd rfl (Or.inl rfl) (pe_hasM0 (pv 0) T.cl HS (hr.mono (by decide))))
      (pss_cons (ps_set (i := 2) scMany.nd rfl (Or.inl rfl) (pe_hasM (pv 0) T.cl HW hr (pa_cons (pv 1) pa_nil)))
      (pss_one (ps_ret (pe_has HL (hr.mono (by decide)) (by rfl) (pa_cons (pe_callB call_len_seq (by rfl) T.b.len boot_len (pa_cons (pe_hasM (pv 0) T.cl HA (hr.mono (by decide)) (pa_cons (pv 2) pa_nil)) pa_nil))
        (pa_cons (pe_lst (pa_cons (pe_lst (pa_cons (pe_callB call_len_seq (by rfl) T.b.len boot_len (pa_cons (pv 2) pa_nil)) (pa_cons (pe_callB call_len_seq (by rfl) T.b.len boot_len (pa_cons (pv 1) pa_nil)) pa_nil))) pa_nil)) pa_nil)))))), ?_⟩
    refine g_seqAsg e (P := NLL (Sy85.settings s)) (gv_settings (gv_var rfl h1)) fun v2 H2 F2 x2 p2 => ?_
    refine g_seqAsg x2.s (P := NLL ((Sy85.settings s).filter (Sy85.counted s))) (gv_ways (by omega) (gv_var rfl (Stb.ex x2.k h1)) fun H1 e1 => gv_var rfl (Stb.ex e1 p2)) fun v3 H3 F3 x3 p3 => ?_
    have h1' := Stb.ex (x2.k.trans x3.k) h1
    have p2' := Stb.ex x3.k p2
    refine g_ret x3.s (gv_lists (rs := [[((Sy85.settings s).filter (Sy85.counted s)).length, (Sy85.settings s).length]]) (by show 1 ≤ 10; decide) (by intro r hr; have : r = _ := List.mem_singleton.mp hr; rw [this]; show 2 ≤ 1000; decide)
      (ga_cons (gv_lenL (gv_among (by omega) (gv_var rfl h1') fun H1 e1 => gv_var rfl (Stb.ex e1 p3))) fun H4 e4 => ga_one (gv_lst (R := NL) (xs := [[_, _]]) (ga_one (gv_nl (gv_lst (R := isN) (xs := [_, _]) (ga_cons (gv_lenL (gv_var rfl (Stb.ex e4 p3))) fun H5 e5 => ga_one (gv_lenL (gv_var rfl (Stb.ex (e4.trans e5) p2')))) (by show 2 ≤ 100000; decide)))) (by show 1 ≤ 100000; decide)))) fun v H' F' x p => k v H' F' ((x2.trans x3).trans x) (nl_il p ?_)
    exact out_lists (((Sy85.settings s).filter (Sy85.counted s)).filter (Sy85.marked s)).length [[((Sy85.settings s).filter (Sy85.counted s)).length, (Sy85.settings s).length]]
/-! ### show -/
abbrev spShow (C : Addr) : Sp := SpF (fun (_ : Hall × Nat) => True) (fun a => [PlanP C a.1, isN a.2]) (fun a => IL (ansOf a.1 (.show_ a.2)))
theorem scShow : FnScope ["self", "k", "shown"] ["self", "k"] (defScope (inPlan 6)) := ⟨rfl, rfl, rfl, by decide +kernel, rfl, by decide +kernel, by decide +kernel⟩
theorem ok_show {f : Addr} {fd : FuncData} (Fn : Fun K "show" "Plan.show" (inPlan 6) f fd) (T : Txt K mg C) (HO : HasM P w K mg base C "open_ways" 6 ["self"] (spOpen C)) (HL : Has P w K mg base "with_lists" 1 ["number", "rows"] spLists) : FnOk P w K mg base CX0 7 f fd ["self", "k"] (spShow C) := by
  refine Fn.ok scShow (fun vs H Q E h => ?_) (fun cdv A outer sh F vs Q E hr h => ?_)
  · obtain ⟨a, H0, _, _, hp, _⟩ := h
    exact allP_len hp
  · obtain ⟨⟨s, n⟩, H, _, e, hp, k⟩ := h
    obtain ⟨v1, v2, rfl, h1, h2⟩ := allP2 hp
    obtain rfl : v2 = nv n := h2
    have wf : Wf s := wf_of h1
    refine ⟨_, pss_cons (ps_set (i := 2) scShow.nd rfl (Or.inl rfl) (pe_hasM0 (pv 0) T.cl HO hr))
      (pss_cons (ps_if (pt_cmpR op_ge (pv 1) (pe_callB call_len_seq (by rfl) T.b.len boot_len (pa_cons (pv 2) pa_nil)) (nomark _)) (pss_one (ps_ret (pe_lst (pa_cons (pe_const T.cNoSuch) pa_nil)))) pss_nil)
      (pss_one (ps_ret (pe_has HL (hr.mono (by decide)) (by rfl) (pa_cons (pe_callB call_len_seq (by rfl) T.b.len boot_len (pa_cons (pe_ix ix_list (pv 2) (pv 1) (fun _ _ => rfl)) pa_nil)) (pa_cons (pe_lst (pa_cons (pe_ix ix_list (pv 2) (pv 1) (fun _ _ => rfl)) pa_nil)) pa_nil)))))), ?_⟩
    refine g_seqAsg e (P := NLL (Sy85.open_ s)) (gv_open (gv_var rfl h1)) fun v3 H3 F3 x3 p3 => ?_
    refine g_ifRet (H := H3) x3.s (P := IL [-2]) (b := decide ((Sy85.open_ s).length ≤ n)) (et_is (et_gv (gv_I0 (gv_var rfl rfl) (gv_lenL (gv_var rfl p3)))) (dec_iff (by omega))) (fun _ => gv_int1 gv_c) (fun hb v H' F' x p => ?_) fun hb F4 x4 => ?_
    · refine k v H' F' (x3.trans x) ?_
      have : (Sy85.open_ s)[n]? = none := List.getElem?_eq_none (of_decide_eq_true hb)
      show IL (ansOf s (.show_ n)) v H'
      have e9 : ansOf s (.show_ n) = [-2] := by
        show Sy85Neutral.out (match (Sy85.open_ s)[n]? with | none => _ | some p => _) = _
        rw [this]
        rfl
      rw [e9]
      exact p
    · obtain ⟨y, hy⟩ : ∃ y, (Sy85.open_ s)[n]? = some y := ⟨_, List.getElem?_eq_getElem (by have := of_decide_eq_false hb; omega)⟩
      have hys := setting_short wf (in_open (List.mem_of_getElem? hy))
      refine g_ret x4.s (gv_lists (n := y.length) (rs := [y]) (by show 1 ≤ 10; decide) (by intro r hr; have : r = _ := List.mem_singleton.mp hr; rw [this]; omega)
        (ga_cons (gv_lenN (gv_item (gv_var rfl p3) (fun _ _ => gv_var rfl rfl) hy)) fun H5 e5 => ga_one (gv_lst (R := NL) (xs := [y]) (ga_one (gv_item (gv_var rfl (Stb.ex e5 p3)) (fun _ _ => gv_var rfl rfl) hy)) (by show 1 ≤ 100000; decide)))) fun v H' F' x p => k v H' F' ((x3.trans x4).trans x) (nl_il p ?_)
      show Sy85Neutral.out (match (Sy85.open_ s)[n]? with | none => _ | some p => _) = _
      rw [hy]
      exact out_lists y.length [y]
/-! ### sure -/
abbrev spSure (C : Addr) : Sp := SpF (fun (_ : Hall) => True) (fun s => [PlanP C s]) (fun s => IL (ansOf s .sure))
abbrev nSure : List Str := ["self", "ways", "free", "always", "never", "cell"]
theorem scSure : FnScope nSure ["self"] (defScope (inPlan 7)) := ⟨rfl, rfl, rfl, by decide +kernel, rfl, by decide +kernel, by decide +kernel⟩
theorem gv_inAll {σ : L2.St} {H : Hp} {ta : TA} {n : Nat} {t : List (List Nat)} (hz : t.length ≤ 100000) (h : GvA ta σ H [isN n, NLL t]) : Gv (tCall spInAll [] E0 ta) σ H (isB (t.all fun l => decide (n ∈ l))) :=
  gv_call (C := fun (a : Nat × List (List Nat)) => a.2.length ≤ 100000) (Ps := fun a => [isN a.1, NLL a.2]) (B := fun a => isB (a.2.all fun l => decide (a.1 ∈ l))) (n, t) hz h
theorem gv_inNone {σ : L2.St} {H : Hp} {ta : TA} {n : Nat} {t : List (List Nat)} (hz : t.length ≤ 100000) (h : GvA ta σ H [isN n, NLL t]) : Gv (tCall spInNone [] E0 ta) σ H (isB (!t.any fun l => decide (n ∈ l))) :=
  gv_call (C := fun (a : Nat × List (List Nat)) => a.2.length ≤ 100000) (Ps := fun a => [isN a.1, NLL a.2]) (B := fun a => isB (!a.2.any fun l => decide (a.1 ∈ l))) (n, t) hz h
theorem ok_sure {f : Addr} {fd : FuncData} (Fn : Fun K "sure" "Plan.sure" (inPlan 7) f fd) (T : Txt K mg C) (HO : HasM P w K mg base C "open_ways" 6 ["self"] (spOpen C)) (HF : HasM P w K mg base C "free_cells" 1 ["self"] (spFree C)) (HA : Has P w K mg base "in_all" 1 ["cell", "ways"] spInAll) (HN : Has P w K mg base "in_none" 1 ["cell", "ways"] spInNone) (HL : Has P w K mg base "with_lists" 1 ["number", "rows"] spLists) : FnOk P w K mg base CX0 7 f fd ["self"] (spSure C) := by
  refine Fn.ok scSure (fun vs H Q E h => ?_) (fun cdv A outer sh F vs Q E hr h => ?_)
  · obtain ⟨a, H0, _, _, hp, _⟩ := h
    exact allP_len hp
  · obtain ⟨s, H, _, e, hp, k⟩ := h
    obtain ⟨v1, rfl, h1⟩ := allP1 hp
    have wf : Wf s := wf_of h1
    have so := open_len wf
    have hr1 : Room 1 _ := hr.mono (by decide)
    have hfl : (Sy85.free s).length ≤ 16 := freeM_len (P := Sy85.isPillar s) wf.size
    refine ⟨_, pss_cons (ps_set (i := 1) scSure.nd rfl (Or.inr rfl) (pe_hasM0 (pv 0) T.cl HO hr))
      (pss_cons (ps_if (pt_cmpR op_eq (pe_callB call_len_seq (by rfl) T.b.len boot_len (pa_cons (pv 1) pa_nil)) pe_int (nomark _)) (pss_one (ps_ret (pe_lst (pa_cons (pe_const T.cWays) pa_nil)))) pss_nil)
      (pss_cons (ps_set (i := 2) scSure.nd rfl (Or.inl rfl) (pe_hasM0 (pv 0) T.cl HF hr1))
      (pss_cons (ps_setLc (i := 3) (own := [("cell", 5)]) (g := gName 5) (tt := tB (tCall spInAll [] E0 (tCons (tVar 5) (tCons (tVar 1) tNil)))) (te := tVar 5) rfl scSure.nd rfl rfl (sw_true rfl rfl rfl (by decide +kernel)) (pi_list (pv 2)) (blkOk_by (N := nSure) (sc := defScope (inPlan 7)) (by decide +kernel))
        (fun _ _ _ _ _ => pg_name (i := 5) scSure.nd rfl (Or.inl rfl)) (fun _ _ _ _ _ => pts_one (pt_val (pe_has HA hr1 (by rfl) (pa_cons (pv 5) (pa_cons (pv 1) pa_nil))))) (fun _ _ _ _ _ => pv 5))
      (pss_cons (ps_setLc (i := 4) (own := [("cell", 5)]) (g := gName 5) (tt := tB (tCall spInNone [] E0 (tCons (tVar 5) (tCons (tVar 1) tNil)))) (te := tVar 5) rfl scSure.nd rfl rfl (sw_true rfl rfl rfl (by decide +kernel)) (pi_list (pv 2)) (blkOk_by (N := nSure) (sc := defScope (inPlan 7)) (by decide +kernel))
        (fun _ _ _ _ _ => pg_name (i := 5) scSure.nd rfl (Or.inl rfl)) (fun _ _ _ _ _ => pts_one (pt_val (pe_has HN hr1 (by rfl) (pa_cons (pv 5) (pa_cons (pv 1) pa_nil))))) (fun _ _ _ _ _ => pv 5))
      (pss_one (ps_ret (pe_has HL hr1 (by rfl) (pa_cons (pe_callB call_len_seq (by rfl) T.b.len boot_len (pa_cons (pv 3) pa_nil)) (pa_cons (pe_lst (pa_cons (pv 3) (pa_cons (pv 4) pa_nil))) pa_nil))))))))), ?_⟩
    refine g_seqAsg e (P := NLL (Sy85.open_ s)) (gv_open (gv_var rfl h1)) fun v2 H2 F2 x2 p2 => ?_
    refine g_ifRet (H := H2) x2.s (P := IL [-6]) (b := (Sy85.open_ s).isEmpty) (et_is (et_gv (gv_op (gv_lenL (gv_var rfl p2)) gv_c (rv_eq rfl))) ?_) (fun _ => gv_int1 gv_c) (fun hb v H' F' x p => ?_) fun hb F3 x3 => ?_
    · rw [v_eq]
      cases hO : Sy85.open_ s with
      | nil => rfl
      | cons a l =>
        rw [List.length_cons]
        exact decide_eq_false (by omega)
    · refine k v H' F' (x2.trans x) ?_
      show IL (ansOf s .sure) v H'
      have e9 : ansOf s .sure = [-6] := by
        show Sy85Neutral.out (if (Sy85.open_ s).isEmpty = true then _ else _) = _
        rw [if_pos hb]
        rfl
      rw [e9]
      exact p
    have h1' := Stb.ex x2.k h1
    refine g_seqAsg (H := H2) x3.s (P := NL (Sy85.free s)) (gv_free (gv_var rfl h1')) fun v4 H4 F4 x4 p4 => ?_
    have p2' := Stb.ex x4.k p2
    refine g_seqAsg x4.s (P := NL ((Sy85.free s).filter fun x => (Sy85.open_ s).all fun p => decide (x ∈ p))) (gv_lcF (xs := Sy85.free s) (fun x => (Sy85.open_ s).all fun p => decide (x ∈ p)) (gv_var rfl p4) (by omega) (fun x => rfl) (fun y H1 hy e1 => et_gvB (gv_inAll (by omega) (ga_cons (gv_var rfl rfl) fun H5 e5 => ga_one (gv_var rfl (Stb.ex (e1.trans e5) p2'))))) (fun x => rfl)) fun v5 H5 F5 x5 p5 => ?_
    have p2'' := Stb.ex x5.k p2'
    refine g_seqAsg x5.s (P := NL ((Sy85.free s).filter fun x => !(Sy85.open_ s).any fun p => decide (x ∈ p))) (gv_lcF (xs := Sy85.free s) (fun x => !(Sy85.open_ s).any fun p => decide (x ∈ p)) (gv_var rfl (Stb.ex x5.k p4)) (by omega) (fun x => rfl) (fun y H1 hy e1 => et_gvB (gv_inNone (by omega) (ga_cons (gv_var rfl rfl) fun H6 e6 => ga_one (gv_var rfl (Stb.ex (e1.trans e6) p2''))))) (fun x => rfl)) fun v6 H6 F6 x6 p6 => ?_
    have l1 := Nat.le_trans (List.length_filter_le (fun x => (Sy85.open_ s).all fun p => decide (x ∈ p)) (Sy85.free s)) hfl
    have l2 := Nat.le_trans (List.length_filter_le (fun x => !(Sy85.open_ s).any fun p => decide (x ∈ p)) (Sy85.free s)) hfl
    refine g_ret x6.s (gv_lists (rs := [(Sy85.free s).filter fun x => (Sy85.open_ s).all fun p => decide (x ∈ p), (Sy85.free s).filter fun x => !(Sy85.open_ s).any fun p => decide (x ∈ p)]) (by show 2 ≤ 10; decide) (by intro r hr; simp only [List.mem_cons, List.not_mem_nil, or_false] at hr; rcases hr with rfl | rfl <;> omega)
      (ga_cons (gv_lenN (gv_var rfl (Stb.ex x6.k p5))) fun H7 e7 => ga_one (gv_lst (R := NL) (xs := [_, _]) (ga_cons (gv_var rfl (Stb.ex (x6.k.trans e7) p5)) fun H8 e8 => ga_one (gv_var rfl (Stb.ex (e7.trans e8) p6))) (by show 2 ≤ 100000; decide)))) fun v H' F' x p => k v H' F' (((((x2.trans x3).trans x4).trans x5).trans x6).trans x) (nl_il p ?_)
    show Sy85Neutral.out (if (Sy85.open_ s).isEmpty = true then _ else _) = _
    rw [if_neg (by rw [hb]; decide), ← out_lists]
    have e1 : (fun x => (Sy85.open_ s).all fun (p : List Nat) => p.contains x) = fun x => (Sy85.open_ s).all fun p => decide (x ∈ p) := by
      funext x
      congr 1
      funext p
      rw [List.contains_eq_mem]
    have e2 : (fun x => (Sy85.open_ s).all fun (p : List Nat) => !p.contains x) = fun x => !(Sy85.open_ s).any fun p => decide (x ∈ p) := by
      funext x
      rw [List.not_any_eq_all_not]
      congr 1
      funext p
      rw [List.contains_eq_mem]
    rw [e1, e2]
    rfl
end
end La
set_option Elab.async false
set_option linter.all false
set_option maxRecDepth 100000
set_option maxHeartbeats 4000000
namespace La
open PySem PySem.Spec PyProof.Rows L2 Evl
theorem met_full (ns : List Int) : ∀ i, i ≤ ns.length → (firstMet (fun i => ns.getD i 0) i).length = i → (ns.take i).Nodup
  | 0, _, _ => by simp
  | i + 1, hi, h => by
    have hle := firstMet_length_le (fun i => ns.getD i 0) i
    rw [firstMet_succ] at h
    have there : i < ns.length := hi
    have hx : ns[i]? = some ns[i] := List.getElem?_eq_getElem there
    have e1 : ns.getD i 0 = ns[i] := by rw [List.getD_eq_getElem?_getD, hx, Option.getD_some]
    by_cases c : ((firstMet (fun i => ns.getD i 0) i).any (· == ns.getD i 0)) = true
    · have : step_dedup (firstMet (fun i => ns.getD i 0) i) (ns.getD i 0) = firstMet (fun i => ns.getD i 0) i := if_pos c
      rw [this] at h
      omega
    · have e2 : step_dedup (firstMet (fun i => ns.getD i 0) i) (ns.getD i 0) = firstMet (fun i => ns.getD i 0) i ++ [ns.getD i 0] := if_neg c
      rw [e2, List.length_append, List.length_singleton] at h
      have ih := met_full ns i (Nat.le_of_lt there) (by omega)
      rw [firstMet_any] at c
      rw [take_snoc hx]
      refine nd_snoc ih fun hm => c ?_
      rw [List.any_eq_true]
      obtain ⟨j, hj⟩ := List.mem_iff_getElem?.mp hm
      rw [List.getElem?_take] at hj
      by_cases hji : j < i
      · rw [if_pos hji] at hj
        refine ⟨ns.getD j 0, List.mem_map.mpr ⟨j, List.mem_range.mpr hji, rfl⟩, ?_⟩
        rw [e1, List.getD_eq_getElem?_getD, hj]
        exact beq_self_eq_true _
      · rw [if_neg hji] at hj
        cases hj
theorem manyIn_lt (ns : List Int) : manyIn ns < ns.length ↔ ¬ ns.Nodup := by
  have hle := firstMet_length_le (fun i => ns.getD i 0) ns.length
  unfold manyIn
  constructor
  · intro h hn
    rw [RZ.firstMet_nodup hn ns.length (Nat.le_refl _), List.take_length] at h
    omega
  · intro h
    rcases Nat.lt_or_ge (firstMet (fun i => ns.getD i 0) ns.length).length ns.length with q | q
    · exact q
    · have := met_full ns ns.length (Nat.le_refl _) (by omega)
      rw [List.take_length] at this
      exact absurd this h
theorem distinct_iff : ∀ l : List Nat, Sy85.distinct l = true ↔ l.Nodup
  | [] => by simp [Sy85.distinct]
  | a :: l => by
    have ih := distinct_iff l
    unfold Sy85.distinct
    rw [Bool.and_eq_true, ih, List.nodup_cons]
    simp
theorem twice_iff (l : List Nat) : decide (((manyIn (l.map fun (n : Nat) => (n : Int)) : Nat) : Int) < (l.length : Int)) = !Sy85.distinct l := by
  have h := manyIn_lt (l.map fun (n : Nat) => (n : Int))
  rw [List.length_map] at h
  have h2 : (l.map fun (n : Nat) => (n : Int)).Nodup ↔ l.Nodup := by
    constructor
    · intro h
      exact (List.pairwise_map.mp h).imp fun q e => q (by rw [e])
    · exact nodup_inj (f := fun (n : Nat) => (n : Int)) fun x y h => Int.natCast_inj.mp h
  rw [h2, ← distinct_iff] at h
  cases hd : Sy85.distinct l with
  | true =>
    rw [hd] at h
    exact decide_eq_false (by intro q; exact h.mp (by omega) rfl)
  | false =>
    rw [hd] at h
    exact decide_eq_true (by have := h.mpr (by decide); omega)
section
variable {P : Program} {w : World} {K : PySem.W.Frag} {mg : Str → Option Value} {base : Heap} {C : Addr}
/-! ### try_out -/
abbrev spTry (C : Addr) : Sp := SpF (fun (a : Hall × List Nat) => a.2.length ≤ 1000) (fun a => [PlanP C a.1, NL a.2]) (fun a => IL (ansOf a.1 (.tryOut a.2)))
theorem scTry : FnScope ["self", "cells"] ["self", "cells"] (defScope (inPlan 8)) := ⟨rfl, rfl, rfl, by decide +kernel, rfl, by decide +kernel, by decide +kernel⟩
theorem ok_try {f : Addr} {fd : FuncData} (Fn : Fun K "try_out" "Plan.try_out" (inPlan 8) f fd) (T : Txt K mg C) (HW : HasM P w K mg base C "first_wrong" 5 ["self", "cells"] (spWrong C)) : FnOk P w K mg base CX0 6 f fd ["self", "cells"] (spTry C) := by
  refine Fn.ok scTry (fun vs H Q E h => ?_) (fun cdv A outer sh F vs Q E hr h => ?_)
  · obtain ⟨a, H0, _, _, hp, _⟩ := h
    exact allP_len hp
  · obtain ⟨⟨s, l⟩, H, hl, e, hp, k⟩ := h
    replace hl : l.length ≤ 1000 := hl
    obtain ⟨v1, v2, rfl, h1, h2⟩ := allP2 hp
    obtain ⟨b, rfl, hb⟩ := h2
    have wf : Wf s := wf_of h1
    refine ⟨_, pss_cons (ps_if (pt_cmpR op_lt (pe_lenSetM (by rfl) T.b.len (by rfl) T.b.set (pv 1)) (pe_callB call_len_seq (by rfl) T.b.len boot_len (pa_cons (pv 1) pa_nil)) (nomark _)) (pss_one (ps_ret (pe_lst (pa_cons (pe_const T.cTwice) pa_nil)))) pss_nil)
      (pss_one (ps_ret (pe_lst (pa_cons (pe_hasM (pv 0) T.cl HW hr (pa_cons (pv 1) pa_nil)) pa_nil)))), ?_⟩
    have hset : Gv (tLenSetM K (tVar 1)) (L2.start ["self", "cells"] [v1, .ref b]) H (isI ((manyIn (l.map fun (n : Nat) => (n : Int)) : Nat) : Int)) := fun F e Q q => ⟨_, rfl, b, l.map fun (n : Nat) => (n : Int), rfl, by rw [List.map_map]; exact sq_of (e b _ hb), by rw [List.length_map]; omega, q _ H F (Ext.refl e) rfl⟩
    refine g_ifRet (H := H) e (P := IL [-1]) (b := !Sy85.distinct l) (et_is (et_gv (gv_I0 hset (gv_lenN (l := l) (gv_var rfl ⟨b, rfl, hb⟩)))) (twice_iff l)) (fun _ => gv_int1 gv_c) (fun hb2 v H' F' x p => ?_) fun hb2 F1 x1 => ?_
    · refine k v H' F' x ?_
      have hd : Sy85.distinct l = false := by simpa using hb2
      show IL (ansOf s (.tryOut l)) v H'
      have e9 : ansOf s (.tryOut l) = [-1] := by
        show Sy85Neutral.out (if Sy85.distinct l = false then _ else _) = _
        rw [if_pos hd]
        rfl
      rw [e9]
      exact p
    · have hd : Sy85.distinct l = true := by simpa using hb2
      refine g_ret x1.s (P := IL [((Sy85.fault s l : Nat) : Int)]) (gv_int1 (gv_wrong (s := s) (l := l) (by omega) (gv_var rfl h1) fun H1 e1 => gv_var rfl ⟨b, rfl, e1 b _ hb⟩)) fun v H' F' x p => k v H' F' (x1.trans x) ?_
      show IL (ansOf s (.tryOut l)) v H'
      have e9 : ansOf s (.tryOut l) = [((Sy85.fault s l : Nat) : Int)] := by
        show Sy85Neutral.out (if Sy85.distinct l = false then _ else _) = _
        rw [if_neg (by rw [hd]; decide)]
        rfl
      rw [e9]
      exact p
/-! ### lit -/
abbrev spLit (C : Addr) : Sp := SpF (fun (a : Hall × List Nat) => a.2.length ≤ 1000) (fun a => [PlanP C a.1, NL a.2]) (fun a => IL (ansOf a.1 (.lit a.2)))
theorem scLit : FnScope ["self", "cells", "lit"] ["self", "cells"] (defScope (inPlan 11)) := ⟨rfl, rfl, rfl, by decide +kernel, rfl, by decide +kernel, by decide +kernel⟩
theorem ok_lit {f : Addr} {fd : FuncData} (Fn : Fun K "lit" "Plan.lit" (inPlan 11) f fd) (T : Txt K mg C) (HA : HasM P w K mg base C "all_free" 2 ["self", "cells"] (spAllFree C)) (HB : Has P w K mg base "lit_by" 3 ["rows", "columns", "pillars", "lamps"] spLitBy) (HL : Has P w K mg base "with_lists" 1 ["number", "rows"] spLists) : FnOk P w K mg base CX0 4 f fd ["self", "cells"] (spLit C) := by
  refine Fn.ok scLit (fun vs H Q E h => ?_) (fun cdv A outer sh F vs Q E hr h => ?_)
  · obtain ⟨a, H0, _, _, hp, _⟩ := h
    exact allP_len hp
  · obtain ⟨⟨s, l⟩, H, hl, e, hp, k⟩ := h
    replace hl : l.length ≤ 1000 := hl
    obtain ⟨v1, v2, rfl, h1, h2⟩ := allP2 hp
    have wf : Wf s := wf_of h1
    refine ⟨_, pss_cons (ps_if (pt_not (pt_val (pe_hasM (pv 0) T.cl HA (hr.mono (by decide)) (pa_cons (pv 1) pa_nil)))) (pss_one (ps_ret (pe_lst (pa_cons (pe_const T.cNoSuch) pa_nil)))) pss_nil)
      (pss_cons (ps_set (i := 2) scLit.nd rfl (Or.inl rfl) (pe_has HB hr (by rfl) (pa_cons (pe_fld (pv 0) rfl) (pa_cons (pe_fld (pv 0) rfl) (pa_cons (pe_fld (pv 0) rfl) (pa_cons (pv 1) pa_nil))))))
      (pss_one (ps_ret (pe_has HL (hr.mono (by decide)) (by rfl) (pa_cons (pe_callB call_len_seq (by rfl) T.b.len boot_len (pa_cons (pv 2) pa_nil)) (pa_cons (pe_lst (pa_cons (pv 2) pa_nil)) pa_nil)))))), ?_⟩
    refine g_ifRet (H := H) e (P := IL [-2]) (b := !allFree s l) (et_not (et_gvB (gv_allFree (s := s) (l := l) (by omega) (gv_var rfl h1) fun H1 e1 => gv_var rfl (Stb.ex e1 h2)))) (fun _ => gv_int1 gv_c) (fun hb v H' F' x p => ?_) fun hb F1 x1 => ?_
    · refine k v H' F' x ?_
      have hf : allFreeM s l = false := (Bool.not_eq_true' _).mp hb
      show IL (ansOf s (.lit l)) v H'
      have e9 : ansOf s (.lit l) = [-2] := by
        show Sy85Neutral.out (if (l.any fun (x : Nat) => !(Sy85.free s).contains x) = true then _ else _) = _
        rw [if_pos (by rw [any_off, hf]; rfl)]
        rfl
      rw [e9]
      exact p
    have hfree : allFreeM s l = true := (Bool.not_eq_false' (b := allFreeM s l)).mp hb
    have hmem := allFree_iff.mp hfree
    have hlt : ∀ x ∈ l, x < s.rows * s.cols := fun x hx => (mem_free.mp (hmem x hx)).1
    refine g_seqAsg (H := H) x1.s (P := NL (litAll s l)) (gv_litBy wf.size hlt (ga_cons (gv_rows T (gv_var rfl h1)) fun _ e2 => ga_cons (gv_cols T (gv_var rfl (Stb.ex e2 h1))) fun _ e3 => ga_cons (gv_pd T (gv_var rfl (Stb.ex (e2.trans e3) h1))) fun _ e4 => ga_one (gv_var rfl (Stb.ex ((e2.trans e3).trans e4) h2)))) fun v3 H3 F3 x3 p3 => ?_
    have hll : (litAll s l).length ≤ 16 := by
      unfold litAll
      exact Nat.le_trans (List.length_filter_le _ _) (by rw [List.length_range]; exact Nat.le_refl _)
    refine g_ret x3.s (gv_lists (rs := [litAll s l]) (by show 1 ≤ 10; decide) (by intro r hr; have : r = _ := List.mem_singleton.mp hr; rw [this]; omega)
      (ga_cons (gv_lenN (gv_var rfl p3)) fun H7 e7 => ga_one (gv_lst (R := NL) (xs := [_]) (ga_one (gv_var rfl (Stb.ex e7 p3))) (by show 1 ≤ 100000; decide)))) fun v H' F' x p => k v H' F' ((x1.trans x3).trans x) (nl_il p ?_)
    show Sy85Neutral.out (if (l.any fun (x : Nat) => !(Sy85.free s).contains x) = true then _ else _) = _
    rw [if_neg (by rw [any_off, hfree]; decide), ← lit_sorted wf hmem, ← out_lists]
    rfl
/-! ### lamps -/
abbrev spLamps (C : Addr) : Sp := SpF (fun (_ : Hall) => True) (fun s => [PlanP C s]) (fun s => IL (ansOf s .lamps))
theorem scLamps : FnScope ["self", "ways", "smallest"] ["self"] (defScope (inPlan 10)) := ⟨rfl, rfl, rfl, by decide +kernel, rfl, by decide +kernel, by decide +kernel⟩
def NSmall (t : List (List Nat)) : VP := fun v H => ∃ ch, NL ch v H ∧ Sy85.small t = some ch ∧ ch ∈ t
theorem ok_lamps {f : Addr} {fd : FuncData} (Fn : Fun K "lamps" "Plan.lamps" (inPlan 10) f fd) (T : Txt K mg C) (HO : HasM P w K mg base C "open_ways" 6 ["self"] (spOpen C)) (HL : Has P w K mg base "with_lists" 1 ["number", "rows"] spLists) : FnOk P w K mg base CX0 7 f fd ["self"] (spLamps C) := by
  refine Fn.ok scLamps (fun vs H Q E h => ?_) (fun cdv A outer sh F vs Q E hr h => ?_)
  · obtain ⟨a, H0, _, _, hp, _⟩ := h
    exact allP_len hp
  · obtain ⟨s, H, _, e, hp, k⟩ := h
    obtain ⟨v1, rfl, h1⟩ := allP1 hp
    have wf : Wf s := wf_of h1
    refine ⟨_, pss_cons (ps_set (i := 1) scLamps.nd rfl (Or.inl rfl) (pe_hasM0 (pv 0) T.cl HO hr))
      (pss_cons (ps_if (pt_cmpR op_eq (pe_callB call_len_seq (by rfl) T.b.len boot_len (pa_cons (pv 1) pa_nil)) pe_int (nomark _)) (pss_one (ps_ret (pe_lst (pa_cons (pe_const T.cWays) pa_nil)))) pss_nil)
      (pss_cons (ps_set (i := 2) scLamps.nd rfl (Or.inl rfl) (pe_minLen (by rfl) T.b.min (by rfl) T.b.len (pa_cons (pv 1) pa_nil)))
      (pss_one (ps_ret (pe_has HL (hr.mono (by decide)) (by rfl) (pa_cons (pe_callB call_len_seq (by rfl) T.b.len boot_len (pa_cons (pv 2) pa_nil)) (pa_cons (pe_lst (pa_cons (pv 2) pa_nil)) pa_nil))))))), ?_⟩
    refine g_seqAsg e (P := NLL (Sy85.open_ s)) (gv_open (gv_var rfl h1)) fun v2 H2 F2 x2 p2 => ?_
    refine g_ifRet (H := H2) x2.s (P := IL [-6]) (b := decide ((Sy85.open_ s).length = 0)) (et_is (et_gv (gv_op (gv_lenL (gv_var rfl p2)) gv_c (rv_eq rfl))) (by rw [v_eq]; exact dec_iff (by omega))) (fun _ => gv_int1 gv_c) (fun hb v H' F' x p => ?_) fun hb F3 x3 => ?_
    · refine k v H' F' (x2.trans x) ?_
      show IL (ansOf s .lamps) v H'
      have e9 : ansOf s .lamps = [-6] := by
        show Sy85Neutral.out (match Sy85.small (Sy85.open_ s) with | none => _ | some p => _) = _
        rw [small_none (of_decide_eq_true hb)]
        rfl
      rw [e9]
      exact p
    have h0 : 0 < (Sy85.open_ s).length := by have := of_decide_eq_false hb; omega
    refine g_seqAsg (H := H2) x3.s (P := NSmall (Sy85.open_ s)) (gv_min (gv_var rfl p2) h0 fun i ch v H1 _ hi hb hn => ⟨ch, hn, small_some hi hb, List.mem_of_getElem? hi⟩) fun v3 H4 F4 x4 p4 => ?_
    obtain ⟨ch, p4, hs, hm⟩ := p4
    have hsh := setting_short wf (in_open hm)
    refine g_ret x4.s (gv_lists (rs := [ch]) (by show 1 ≤ 10; decide) (by intro r hr; have : r = _ := List.mem_singleton.mp hr; rw [this]; omega)
      (ga_cons (gv_lenN (gv_var rfl p4)) fun H7 e7 => ga_one (gv_lst (R := NL) (xs := [_]) (ga_one (gv_var rfl (Stb.ex e7 p4))) (by show 1 ≤ 100000; decide)))) fun v H' F' x p => k v H' F' (((x2.trans x3).trans x4).trans x) (nl_il p ?_)
    show Sy85Neutral.out (match Sy85.small (Sy85.open_ s) with | none => _ | some p => _) = _
    rw [hs]
    exact out_lists ch.length [ch]
/-! ### fewest -/
abbrev spFewest (C : Addr) : Sp := SpF (fun (_ : Hall) => True) (fun s => [PlanP C s]) (fun s => IL (ansOf s .fewest))
abbrev nFewest : List Str := ["self", "missed", "ruled_out", "chosen", "lamps", "cells"]
theorem scFewest : FnScope nFewest ["self"] (defScope (inPlan 9)) := ⟨rfl, rfl, rfl, by decide +kernel, rfl, by decide +kernel, by decide +kernel⟩
theorem ok_fewest {f : Addr} {fd : FuncData} (Fn : Fun K "fewest" "Plan.fewest" (inPlan 9) f fd) (T : Txt K mg C) (HM : HasM P w K mg base C "numbers_missed" 4 ["self", "lamps"] (spMissed C)) (HS : HasM P w K mg base C "settings" 4 ["self"] (spSettings C)) (HN : HasM P w K mg base C "numbered" 1 ["self"] (spNumbered C))
    (HF : Has P w K mg base "fewest_that_meet" 2 ["cells", "groups"] spFew) (HL : Has P w K mg base "with_lists" 1 ["number", "rows"] spLists) : FnOk P w K mg base CX0 5 f fd ["self"] (spFewest C) := by
  refine Fn.ok scFewest (fun vs H Q E h => ?_) (fun cdv A outer sh F vs Q E hr h => ?_)
  · obtain ⟨a, H0, _, _, hp, _⟩ := h
    exact allP_len hp
  · obtain ⟨s, H, _, e, hp, k⟩ := h
    obtain ⟨v1, rfl, h1⟩ := allP1 hp
    have wf : Wf s := wf_of h1
    have s1 := settings_len wf
    have htl := told_few wf
    refine ⟨_, pss_cons (ps_setLc (i := 1) (own := [("lamps", 4)]) (g := gName 4) (tt := tYes) (te := tMeth C "numbers_missed" (spMissed C) [] E0 (tVar 0) (tCons (tVar 4) tNil)) rfl scFewest.nd rfl rfl (sw_true rfl rfl rfl (by decide +kernel)) (pi_list (pe_hasM0 (pv 0) T.cl HS hr)) (blkOk_by (N := nFewest) (sc := defScope (inPlan 9)) (by decide +kernel))
        (fun _ _ _ _ _ => pg_name (i := 4) scFewest.nd rfl (Or.inl rfl)) (fun _ _ _ _ _ => pts_nil) (fun _ _ _ _ _ => pe_hasM (pv 0) T.cl HM hr (pa_cons (pv 4) pa_nil)))
      (pss_cons (ps_setLc (i := 2) (own := [("cells", 5)]) (g := gName 5) (tt := tTest (tOp (rI0 fun i j => .bl (decide (j < i))) (tCB (rLenS K) (tCons (tVar 5) tNil)) (tC (.int 0)))) (te := tVar 5) rfl scFewest.nd rfl rfl (sw_true rfl rfl rfl (by decide +kernel)) (pi_list (pv 1)) (blkOk_by (N := nFewest) (sc := defScope (inPlan 9)) (by decide +kernel))
        (fun _ _ _ _ _ => pg_name (i := 5) scFewest.nd rfl (Or.inl rfl)) (fun _ _ _ _ _ => pts_one (pt_cmpR op_gt (pe_callB call_len_seq (by rfl) T.b.len boot_len (pa_cons (pv 5) pa_nil)) pe_int (nomark _))) (fun _ _ _ _ _ => pv 5))
      (pss_cons (ps_if (pt_cmpR op_ne (pe_op op_sub (pe_callB call_len_seq (by rfl) T.b.len boot_len (pa_cons (pv 1) pa_nil)) (pe_callB call_len_seq (by rfl) T.b.len boot_len (pa_cons (pv 2) pa_nil))) pe_int (nomark _)) (pss_one (ps_ret (pe_lst (pa_cons (pe_const T.cWays) pa_nil)))) pss_nil)
      (pss_cons (ps_set (i := 3) scFewest.nd rfl (Or.inl rfl) (pe_has HF (hr.mono (by decide)) (by rfl) (pa_cons (pe_hasM0 (pv 0) T.cl HN (hr.mono (by decide))) (pa_cons (pv 2) pa_nil))))
      (pss_one (ps_ret (pe_has HL (hr.mono (by decide)) (by rfl) (pa_cons (pe_callB call_len_seq (by rfl) T.b.len boot_len (pa_cons (pv 3) pa_nil)) (pa_cons (pe_lst (pa_cons (pv 3) pa_nil)) pa_nil)))))))), ?_⟩
    have tm : ((Sy85.settings s).filter fun _ => true).map (missed s) = (Sy85.settings s).map (missed s) := map_true _ _
    refine g_seqAsg e (P := NLL ((Sy85.settings s).map (missed s))) ?_ fun v2 H2 F2 x2 p2 => ?_
    · rw [← tm]
      refine gv_lc (S := NL) (R := NL) (fun _ => true) (missed s) (gv_settings (gv_var rfl h1)) (by omega) ?_ ?_ ?_
      · exact fun x => rfl
      · exact fun _ _ _ _ _ _ => et_yes
      · exact fun y x H1 hy _ e1 hs => gv_missed (gv_var rfl (Stb.ex e1 h1)) fun H2 e2 => gv_var rfl (Stb.ex e2 hs)
    refine g_seqAsg x2.s (P := NLL (ruled s (Sy85.settings s))) ?_ fun v3 H3 F3 x3 p3 => ?_
    · refine gv_lcFL (xs := (Sy85.settings s).map (missed s)) (fun c => decide (0 < c.length)) (gv_var rfl p2) (by rw [List.length_map]; omega) ?_ ?_ ?_
      · exact fun x => rfl
      · exact fun y x H1 hy e1 hs => et_is (et_gv (gv_I0 (gv_lenN (gv_var rfl hs)) gv_c)) (dec_iff (by omega))
      · exact fun x => rfl
    have hcount := ruled_count wf (Sy85.settings s)
    refine g_ifRet (H := H3) x3.s (P := IL [-6]) (b := !decide (((Sy85.settings s).filter (Sy85.counted s)).length = 1)) (et_is (et_gv (gv_op (gv_I0 (gv_lenL (gv_var rfl (Stb.ex x3.k p2))) (gv_lenL (gv_var rfl p3))) gv_c (rv_ne rfl))) ?_) (fun _ => gv_int1 gv_c) (fun hb v H' F' x p => ?_) fun hb F4 x4 => ?_
    · rw [v_eq, List.length_map]
      congr 1
      exact dec_iff (by omega)
    · refine k v H' F' ((x2.trans x3).trans x) ?_
      have hne : ((Sy85.settings s).filter (Sy85.counted s)).length ≠ 1 := by simpa using hb
      show IL (ansOf s .fewest) v H'
      have e9 : ansOf s .fewest = [-6] := by
        show Sy85Neutral.out (match Sy85.fewest s with | none => _ | some p => _) = _
        rw [fewest_none hne]
        rfl
      rw [e9]
      exact p
    have h1c : ((Sy85.settings s).filter (Sy85.counted s)).length = 1 := by simpa using hb
    have h1' := Stb.ex (x2.k.trans x3.k) h1
    refine g_seqAsg (H := H3) x4.s (P := NLeast (Sy85.told s) (ruled s (Sy85.settings s))) (gv_few (told_rise wf) htl (told_meets wf _) (ga_cons (gv_numbered (gv_var rfl h1')) fun H5 e5 => ga_one (gv_var rfl (Stb.ex e5 p3)))) fun v4 H5 F5 x5 p5 => ?_
    obtain ⟨ch, p5, L⟩ := p5
    have hch : ch.length ≤ 16 := by
      obtain ⟨kk, i, hi, _⟩ := L.h
      have := (mem_comb (List.mem_of_getElem? hi)).1.length_le
      omega
    refine g_ret x5.s (gv_lists (rs := [ch]) (by show 1 ≤ 10; decide) (by intro r hr; have : r = _ := List.mem_singleton.mp hr; rw [this]; omega)
      (ga_cons (gv_lenN (gv_var rfl p5)) fun H7 e7 => ga_one (gv_lst (R := NL) (xs := [_]) (ga_one (gv_var rfl (Stb.ex e7 p5))) (by show 1 ≤ 100000; decide)))) fun v H' F' x p => k v H' F' ((((x2.trans x3).trans x4).trans x5).trans x) (nl_il p ?_)
    show Sy85Neutral.out (match Sy85.fewest s with | none => _ | some p => _) = _
    rw [fewest_some wf h1c L]
    exact out_lists ch.length [ch]
end
end La
set_option Elab.async false
set_option linter.all false
set_option maxRecDepth 100000
set_option maxHeartbeats 4000000
namespace La
open PySem PySem.Spec PyProof.Rows L2 Evl
section
variable {σ : L2.St} {H F : Hp} {te ta tb : TE} {D : Ends} {K : PySem.W.Frag}
theorem g_ext {p : Addr} {xs : List V} {i : Nat} {l : List Nat} (e : Ex H F) (hp : F p = some (.lst xs)) (hi : σ[i]? = some (some (.ref p))) (h : Gv te σ H (NL l)) (hz : xs.length + l.length ≤ 100000)
    (k : ∀ H' F', Ext H F H' F' → D.nx σ (upd F' p (.lst (xs ++ l.map nv)))) : tDrop (tBM K "list" rExtend (tVar i) (tCons te tNil)) D σ F :=
  ⟨.ref p, hi, .inl ⟨rfl, xs, sq_of hp⟩, h F e _ fun v H' F' x ⟨b, hv, hb⟩ => ⟨p, b, xs, l.map nv, rfl, by rw [hv], x.f p _ hp, x.s b _ hb, by rw [List.length_map]; exact sz_of hz, k H' F' x⟩⟩
theorem gv_lenD {s : Hall} (w : Wf s) (h : Gv te σ H (PilD s)) : Gv (tCB (fun xs H Q => ∃ a kvs, xs = [V.ref a] ∧ H a = some (.dK kvs) ∧ Q (.int kvs.length) H) (tCons te tNil)) σ H (isN s.pillars.length) := fun F e Q q =>
  h F e _ fun v H1 F1 x hv => by
    obtain ⟨d, kp, rfl, h2, h3⟩ := pil_len w hv
    refine ⟨d, kp, rfl, x.s d _ h2, ?_⟩
    rw [h3]
    exact q _ H1 F1 x rfl
end
theorem pil_flat_len (l : List (Nat × Option Nat)) : (l.flatMap fun p => [p.1, p.2.getD 9]).length = 2 * l.length := by
  induction l with
  | nil => rfl
  | cons a l ih =>
    rw [List.flatMap_cons, List.length_append, ih]
    simp only [List.length_cons, List.length_nil]
    omega
section
variable {P : Program} {w : World} {K : PySem.W.Frag} {mg : Str → Option Value} {base : Heap} {C : Addr}
/-! ### state -/
abbrev spState (C : Addr) : Sp := SpF (fun (_ : Hall) => True) (fun s => [PlanP C s]) (fun s => IL (ansOf s .state))
abbrev nState : List Str := ["self", "pillars", "cell", "size"]
theorem scState : FnScope nState ["self"] (defScope (inPlan 12)) := ⟨rfl, rfl, rfl, by decide +kernel, rfl, by decide +kernel, by decide +kernel⟩
theorem ok_state {f : Addr} {fd : FuncData} (Fn : Fun K "state" "Plan.state" (inPlan 12) f fd) (T : Txt K mg C) (HM : HasM P w K mg base C "marked" 1 ["self", "how"] (spMarked C)) (HL : Has P w K mg base "with_lists" 1 ["number", "rows"] spLists) : FnOk P w K mg base CX0 2 f fd ["self"] (spState C) := by
  refine Fn.ok scState (fun vs H Q E h => ?_) (fun cdv A outer sh F vs Q E hr h => ?_)
  · obtain ⟨a, H0, _, _, hp, _⟩ := h
    exact allP_len hp
  · obtain ⟨s, H, _, e, hp, k⟩ := h
    obtain ⟨v1, rfl, h1⟩ := allP1 hp
    have wf : Wf s := wf_of h1
    have hfew := pillars_few wf
    refine ⟨_, pss_cons (ps_set (i := 1) scState.nd rfl (Or.inl rfl) (pe_lst pa_nil))
      (pss_cons (ps_for PassesOwn.never rfl (pi_list (pe_callB (cr_sortedKeys rfl) (by rfl) T.b.sorted boot_sorted (pa_cons (pe_bm0 PySem.F.plainAttrs_dict PySem.F.slot_dict_keys PySem.F.type_dict_keys mt_keysK (pe_fld (pv 0) rfl)) pa_nil))) (pg_name (i := 2) scState.nd rfl (Or.inl rfl))
        (pss_one (ps_expr (pe_bm PySem.F.plainAttrs_list PySem.F.slot_list_extend PySem.F.type_list_extend mt_extend (pv 1) (pa_cons (pe_lst (pa_cons (pv 2) (pa_cons (pe_dget (hu_of hr) (pe_fld (pv 0) rfl) (pv 2) (fun _ _ => rfl)) pa_nil))) pa_nil)))))
      (pss_cons (ps_set (i := 3) scState.nd rfl (Or.inl rfl) (pe_lst (pa_cons (pe_fld (pv 0) rfl) (pa_cons (pe_fld (pv 0) rfl) pa_nil))))
      (pss_one (ps_ret (pe_has HL hr (by rfl) (pa_cons (pe_callB call_lenD (by rfl) T.b.len boot_len (pa_cons (pe_fld (pv 0) rfl) pa_nil))
        (pa_cons (pe_lst (pa_cons (pv 3) (pa_cons (pv 1) (pa_cons (pe_hasM (pv 0) T.cl HM hr (pa_cons (pe_const T.cWith) pa_nil)) (pa_cons (pe_hasM (pv 0) T.cl HM hr (pa_cons (pe_const T.cWithout) pa_nil)) pa_nil))))) pa_nil))))))), ?_⟩
    refine s_asgL (el_lst ea_nil (by show 0 ≤ 100000; decide)) fun p F0 hp0 e0 hF0 => ?_
    have hpH : H p = none := fresh_back e hp0
    refine g_seqFor (H := H) (S := isN) (xs := s.pillars.map (·.1)) (e.trans e0) (nl_gv (gv_sortedKeys wf.prise ((gv_pil T (gv_var rfl h1)).imp fun _ _ _ p => pil_kd wf p)))
      (fun H1 i σ' F' => ∃ v3, σ' = [some v1, some (.ref p), v3, none] ∧ Ex H1 F' ∧ Ex H H1 ∧ H1 p = none ∧ Ex F F' ∧ F' p = some (.lst (((s.pillars.take i).flatMap fun p => [p.1, p.2.getD 9]).map nv)))
      (fun H1 F1 x1 => ⟨none, rfl, x1.s, x1.k, x1.out hF0 hpH, e0.trans x1.f, x1.f p _ hF0⟩) (fun H1 i σ' F' ⟨_, _, h, _⟩ => h) ?_ ?_
    · rintro H1 F1 i y u σ' F' x1 hy hu ⟨a3, rfl, q1, q2, q3, q4, q5⟩
      obtain rfl : u = nv y := hu
      obtain ⟨q, hq, rfl⟩ : ∃ q, s.pillars[i]? = some q ∧ q.1 = y := by
        rw [List.getElem?_map] at hy
        cases e1 : s.pillars[i]? with
        | none =>
          rw [e1] at hy
          cases hy
        | some q =>
          rw [e1] at hy
          exact ⟨q, rfl, Option.some.inj hy⟩
      have hn := numOf_mem wf (List.mem_of_getElem? hq)
      have htk : (s.pillars.take i).length ≤ 16 := by
        rw [List.length_take]
        omega
      show tDrop _ _ [some v1, some (.ref p), some (nv q.1), none] F'
      refine g_ext (H := H1) (l := [q.1, q.2.getD 9]) q1 q5 rfl (gv_nl (gv_lst (R := isN) (xs := [_, _]) (ga_cons (gv_var rfl rfl) fun H2 e2 => ga_one (gv_dget (gv_pil T (gv_var rfl (Stb.ex (q2.trans e2) h1))) (fun _ _ => gv_var rfl rfl) hn)) (by show 2 ≤ 100000; decide))) (by rw [List.length_map, pil_flat_len]; show _ + 2 ≤ _; omega) fun H2 F2 x2 => ?_
      have o2 := x2.out q5 q3
      refine ⟨_, rfl, Ex.mut (x2.k.trans x2.s) q3, q2, q3, Ex.mut (q4.trans x2.f) hp0, ?_⟩
      have e9 : ((s.pillars.take (i + 1)).flatMap fun p => [p.1, p.2.getD 9]).map nv = ((s.pillars.take i).flatMap fun p => [p.1, p.2.getD 9]).map nv ++ [q.1, q.2.getD 9].map nv := by
        rw [take_snoc hq, List.flatMap_append, List.map_append]
        simp
      rw [e9]
      exact upd_same
    · rintro H1 F1 σ' F' x1 ⟨a3, rfl, q1, q2, q3, q4, q5⟩
      rw [List.length_map, List.take_length] at q5
      have y1 := Ext.new e hp0 q4 q5
      have e1 : Ex H _ := y1.k
      have pp : NL (s.pillars.flatMap fun p => [p.1, p.2.getD 9]) (.ref p) (upd H p (.lst ((s.pillars.flatMap fun p => [p.1, p.2.getD 9]).map nv))) := ⟨p, rfl, upd_same⟩
      generalize upd H p (.lst ((s.pillars.flatMap fun p => [p.1, p.2.getD 9]).map nv)) = H5 at *
      have h1' := Stb.ex e1 h1
      refine g_seqAsg (H := H5) y1.s (P := NL [s.rows, s.cols]) (gv_nl (gv_lst (R := isN) (xs := [_, _]) (ga_cons (gv_rows T (gv_var rfl h1')) fun H2 e2 => ga_one (gv_cols T (gv_var rfl (Stb.ex e2 h1')))) (by show 2 ≤ 100000; decide))) fun v4 H6 F6 x6 p6 => ?_
      have h1'' := Stb.ex x6.k h1'
      have lL : s.lamps.length ≤ 16 := few (rise_nodup wf.lrise) fun n hn => lt16 wf.size (wf.llt n hn).1
      have lB : s.bare.length ≤ 16 := few (rise_nodup wf.brise) fun n hn => lt16 wf.size (wf.blt n hn).1
      have lP := pil_flat_len s.pillars
      refine g_ret x6.s (gv_lists (n := s.pillars.length) (rs := [[s.rows, s.cols], s.pillars.flatMap fun p => [p.1, p.2.getD 9], s.lamps, s.bare]) (by show 4 ≤ 10; decide) ?_
        (ga_cons (gv_lenD wf (gv_pil T (gv_var rfl h1''))) fun H7 e7 => ga_one (gv_lst (R := NL) (xs := [_, _, _, _]) (ga_cons (gv_var rfl (Stb.ex e7 p6)) fun H8 e8 => ga_cons (gv_var rfl (Stb.ex ((x6.k.trans e7).trans e8) pp)) fun H9 e9 =>
          ga_cons (gv_marked (b := true) (gv_var rfl (Stb.ex ((e7.trans e8).trans e9) h1'')) fun _ _ => gv_c) fun H10 e10 => ga_one (gv_marked (b := false) (gv_var rfl (Stb.ex (((e7.trans e8).trans e9).trans e10) h1'')) fun _ _ => gv_c)) (by show 4 ≤ 100000; decide)))) fun v H' F2 x p => k v H' F2 ((y1.trans x6).trans x) (nl_il p ?_)
      · intro r hr
        simp only [List.mem_cons, List.not_mem_nil, or_false] at hr
        rcases hr with rfl | rfl | rfl | rfl
        · show 2 ≤ 1000
          decide
        · omega
        · omega
        · omega
      · exact out_lists _ [[s.rows, s.cols], s.pillars.flatMap fun p => [p.1, p.2.getD 9], s.lamps, s.bare]
end
end La
set_option Elab.async false
set_option linter.all false
set_option maxRecDepth 100000
set_option maxHeartbeats 4000000
namespace La
open PySem PySem.Spec PyProof.Rows L2 Evl
/-! ### calls that may change the hall -/
def Kept (F F' : Hp) : Prop := ∀ a o, F a = some o → (∀ C dx fs, o ≠ .ins C dx fs) → (∀ kvs, o ≠ .dK kvs) → F' a = some o
theorem Kept.of_ex {F F' : Hp} (e : Ex F F') : Kept F F' := fun a o h _ _ => e a o h
theorem Kept.trans {F F' F2 : Hp} (x : Kept F F') (y : Kept F' F2) : Kept F F2 := fun a o h n1 n2 => y a o (x a o h n1 n2) n1 n2
theorem Kept.ins {F : Hp} {a C dx : Addr} {fs : List (Str × V)} {o : HO} (h : F a = some (.ins C dx fs)) : Kept F (upd F a o) := fun b u hb n1 n2 => by
  have : b ≠ a := fun q => by
    subst q
    rw [h] at hb
    exact n1 C dx fs (Option.some.inj hb).symm
  rw [upd_ne this]
  exact hb
theorem Kept.dict {F : Hp} {a : Addr} {kvs : List (L2.Key × V)} {o : HO} (h : F a = some (.dK kvs)) : Kept F (upd F a o) := fun b u hb n1 n2 => by
  have : b ≠ a := fun q => by
    subst q
    rw [h] at hb
    exact n2 kvs (Option.some.inj hb).symm
  rw [upd_ne this]
  exact hb
/-- what follows a call: the hall as it then is, the answer a new list, other lists as they were -/
def Post (C : Addr) (s' : Hall) (ans : List Int) (self : Addr) (F : Hp) (Q : VK) : Prop := ∀ b F', Kept F F' → PlanP C s' (.ref self) F' → F b = none → F' b = some (.lst (ans.map V.int)) → Q (.ref b) F'
theorem Post.back {C : Addr} {s' : Hall} {ans : List Int} {self : Addr} {F F1 : Hp} {Q : VK} (h : Post C s' ans self F Q) (k : Kept F F1) (n : ∀ b, F1 b = none → F b = none) : Post C s' ans self F1 Q := fun b F' k2 hp hb h2 => h b F' (k.trans k2) hp (n b hb) h2
theorem small_of {C : Addr} {s : Hall} {self : Addr} {F : Hp} (h : PlanP C s (.ref self) F) : ∃ Hs, Ex Hs F ∧ PlanP C s (.ref self) Hs ∧ ∀ a xs, Hs a ≠ some (.lst xs) := by
  obtain ⟨a, dx, dp, dm, kp, km, h1, h2, h3, h4, h5, h6, h7, h8⟩ := h
  obtain rfl : self = a := by injection h1
  have n1 : dp ≠ self := fun q => by rw [q, h2] at h3; cases h3
  have n2 : dm ≠ self := fun q => by rw [q, h2] at h4; cases h4
  refine ⟨upd (upd (upd (fun _ => none) self (.ins C dx (plF s.rows s.cols dp dm))) dp (.dK kp)) dm (.dK km), ?_, ?_, ?_⟩
  · intro b o hb
    by_cases q : b = dm
    · subst q
      rw [upd_same] at hb
      rw [h4, hb]
    · rw [upd_ne q] at hb
      by_cases q : b = dp
      · subst q
        rw [upd_same] at hb
        rw [h3, hb]
      · rw [upd_ne q] at hb
        by_cases q : b = self
        · subst q
          rw [upd_same] at hb
          rw [h2, hb]
        · rw [upd_ne q] at hb
          cases hb
  · refine ⟨self, dx, dp, dm, kp, km, rfl, ?_, ?_, upd_same, h5, h6, h7, h8⟩
    · rw [upd_ne (fun q => n2 q.symm), upd_ne (fun q => n1 q.symm)]
      exact upd_same
    · rw [upd_ne h5]
      exact upd_same
  · intro b xs hb
    by_cases q : b = dm
    · subst q
      rw [upd_same] at hb
      cases hb
    · rw [upd_ne q] at hb
      by_cases q : b = dp
      · subst q
        rw [upd_same] at hb
        cases hb
      · rw [upd_ne q] at hb
        by_cases q : b = self
        · subst q
          rw [upd_same] at hb
          cases hb
        · rw [upd_ne q] at hb
          cases hb
theorem fresh_of {Hs F H' F' : Hp} {ans : List Int} {v : V} (x : Ext Hs F H' F') (hs : ∀ a xs, Hs a ≠ some (.lst xs)) (h : IL ans v H') : ∃ b, v = .ref b ∧ F b = none ∧ F' b = some (.lst (ans.map V.int)) := by
  obtain ⟨b, h1, h2⟩ := h
  refine ⟨b, h1, ?_, x.s b _ h2⟩
  rcases x.n b _ h2 with q | q
  · exact absurd q (hs b _)
  · exact q
/-- an answer that leaves the hall as it is -/
theorem Post.same {C : Addr} {s : Hall} {ans : List Int} {self : Addr} {Hs F H' F' : Hp} {Q : VK} {v : V} (h : Post C s ans self F Q) (x : Ext Hs F H' F') (hp : PlanP C s (.ref self) Hs) (hs : ∀ a xs, Hs a ≠ some (.lst xs)) (hv : IL ans v H') : Q v F' := by
  obtain ⟨b, rfl, hb, hb2⟩ := fresh_of x hs hv
  exact h b F' (.of_ex x.f) (Stb.ex (x.k.trans x.s) hp) hb hb2
theorem put_here {f : Str} {v x : V} {r : List (Str × V)} : putF f v ((f, x) :: r) = (f, v) :: r := if_pos rfl
theorem put_past {f g : Str} {v x : V} {r : List (Str × V)} (h : ¬ g = f) : putF f v ((g, x) :: r) = (g, x) :: putF f v r := if_neg h
theorem pf_rows (r r' c : Nat) (dp dm : Addr) : putF "rows" (nv r') (plF r c dp dm) = plF r' c dp dm := put_here
theorem pf_cols (r c c' : Nat) (dp dm : Addr) : putF "columns" (nv c') (plF r c dp dm) = plF r c' dp dm := (put_past (by decide +kernel)).trans (congrArg _ put_here)
theorem pf_pil (r c : Nat) (dp dp' dm : Addr) : putF "pillars" (.ref dp') (plF r c dp dm) = plF r c dp' dm := (put_past (by decide +kernel)).trans (congrArg _ ((put_past (by decide +kernel)).trans (congrArg _ put_here)))
theorem pf_mrk (r c : Nat) (dp dm dm' : Addr) : putF "marks" (.ref dm') (plF r c dp dm) = plF r c dp dm' := (put_past (by decide +kernel)).trans (congrArg _ ((put_past (by decide +kernel)).trans (congrArg _ ((put_past (by decide +kernel)).trans (congrArg _ put_here)))))
theorem pf_new (r c : Nat) (dp dm : Addr) : putF "marks" (.ref dm) (putF "pillars" (.ref dp) (putF "columns" (nv c) (putF "rows" (nv r) []))) = plF r c dp dm := by
  have e1 : putF "columns" (nv c) (putF "rows" (nv r) []) = ([("rows", nv r), ("columns", nv c)] : List (Str × V)) := (put_past (by decide +kernel)).trans rfl
  have e2 : putF "pillars" (.ref dp) ([("rows", nv r), ("columns", nv c)] : List (Str × V)) = ([("rows", nv r), ("columns", nv c), ("pillars", .ref dp)] : List (Str × V)) := (put_past (by decide +kernel)).trans (congrArg _ ((put_past (by decide +kernel)).trans rfl))
  have e3 : putF "marks" (.ref dm) ([("rows", nv r), ("columns", nv c), ("pillars", .ref dp)] : List (Str × V)) = plF r c dp dm := (put_past (by decide +kernel)).trans (congrArg _ ((put_past (by decide +kernel)).trans (congrArg _ ((put_past (by decide +kernel)).trans rfl))))
  rw [e1, e2, e3]
theorem pfits_new (r c : Nat) : PFits ⟨r, c, [], [], []⟩ [] := ⟨⟨[], by simp, rfl, fun n => by simp [Sy85.isPillar]⟩, fun n => rfl⟩
theorem mfits_new (r c : Nat) : MFits ⟨r, c, [], [], []⟩ [] := ⟨⟨[], by simp, rfl, fun n => by simp⟩, fun n => by simp [valV_nil]⟩
section
variable {P : Program} {w : World} {K : PySem.W.Frag} {mg : Str → Option Value} {base : Heap} {C : Addr}
/-! ### __init__ -/
def spInit (C : Addr) : Sp := fun vs F Q _ => ∃ (self dx : Addr), vs = [.ref self] ∧ F self = some (.ins C dx []) ∧
  ∀ F' : Hp, PlanP C Sy85.init (.ref self) F' → (∀ b o, F b = some o → b ≠ self → F' b = some o) → Q .non F'
theorem scInit : FnScope ["self"] ["self"] (defScope (inPlan 0)) := ⟨rfl, rfl, rfl, by decide +kernel, rfl, by decide +kernel, by decide +kernel⟩
theorem ok_init {f : Addr} {fd : FuncData} (Fn : Fun K "__init__" "Plan.__init__" (inPlan 0) f fd) (T : Txt K mg C) : FnOk P w K mg base CX0 1 f fd ["self"] (spInit C) := by
  refine Fn.ok scInit (fun vs H Q E h => ?_) (fun cdv A outer sh F vs Q E hr h => ?_)
  · obtain ⟨a, dx, rfl, _⟩ := h
    rfl
  · obtain ⟨a, dx, rfl, ha, k⟩ := h
    refine ⟨_, pss_cons (ps_fld (pv 0) pe_int rfl) (pss_cons (ps_fld (pv 0) pe_int rfl) (pss_cons (ps_fld (pv 0) pe_dnewK rfl) (pss_one (ps_fld (pv 0) pe_dnewK rfl)))), ?_⟩
    refine ⟨_, rfl, a, C, dx, [], rfl, ha, T.cl, T.nR, (by show 0 < 1000; decide), ?_⟩
    refine ⟨_, rfl, a, C, dx, _, rfl, upd_same, T.cl, T.nC, (by show 1 < 1000; decide), ?_⟩
    intro p1 hp1
    have n1 : a ≠ p1 := fun q => by
      subst q
      rw [upd_same] at hp1
      cases hp1
    refine ⟨_, rfl, a, C, dx, _, rfl, (upd_ne n1).trans upd_same, T.cl, T.nP, (by show 2 < 1000; decide), ?_⟩
    intro p2 hp2
    have n2 : a ≠ p2 := fun q => by
      subst q
      rw [upd_same] at hp2
      cases hp2
    have n3 : p1 ≠ p2 := fun q => by
      subst q
      rw [upd_ne (fun q => n1 q.symm), upd_same] at hp2
      cases hp2
    refine ⟨_, rfl, a, C, dx, _, rfl, (upd_ne n2).trans upd_same, T.cl, T.nM, (by show 3 < 1000; decide), ?_⟩
    have hp1' : F p1 = none := by
      rw [upd_ne (fun q => n1 q.symm), upd_ne (fun q => n1 q.symm)] at hp1
      exact hp1
    have hp2' : F p2 = none := by
      rw [upd_ne (fun q => n2 q.symm), upd_ne (fun q => n3 q.symm), upd_ne (fun q => n2 q.symm), upd_ne (fun q => n2 q.symm)] at hp2
      exact hp2
    refine k _ ⟨a, dx, p1, p2, [], [], rfl, ?_, ?_, ?_, n3, pfits_new 1 1, mfits_new 1 1, wf_begins ⟨by decide, by decide, by decide, by decide⟩⟩ ?_
    · rw [upd_same]
      exact congrArg (fun q => some (HO.ins C dx q)) (pf_new 1 1 p1 p2)
    · rw [upd_ne (fun q => n1 q.symm), upd_ne n3, upd_ne (fun q => n1 q.symm)]
      exact upd_same
    · rw [upd_ne (fun q => n2 q.symm)]
      exact upd_same
    · intro b o hb hba
      have m1 : b ≠ p1 := ne_of_none hb hp1'
      have m2 : b ≠ p2 := ne_of_none hb hp2'
      rw [upd_ne hba, upd_ne m2, upd_ne hba, upd_ne m1, upd_ne hba, upd_ne hba]
      exact hb
/-! ### begins -/
def spBegins (C : Addr) : Sp := fun vs F Q _ => ∃ (self : Addr) (s : Hall) (r c : Nat), vs = [.ref self, nv r, nv c] ∧ PlanP C s (.ref self) F ∧ Post C (Sy85.step s (.begins r c)).1 (ansOf s (.begins r c)) self F Q
theorem scBegins : FnScope ["self", "many_rows", "many_columns"] ["self", "many_rows", "many_columns"] (defScope (inPlan 1)) := ⟨rfl, rfl, rfl, by decide +kernel, rfl, by decide +kernel, by decide +kernel⟩
theorem ev_chain {σ : L2.St} {H : Hp} {ta tb tc : TE} {i j l : Int} (ha : Ev ta σ H (.int i)) (hb : Ev tb σ H (.int j)) (hc : Ev tc σ H (.int l)) : Ev (tChain (rI0 fun i j => .bl (decide (i ≤ j))) (rI0 fun i j => .bl (decide (i ≤ j))) ta tb tc) σ H (.bl (decide (i ≤ j) && decide (j ≤ l))) := fun H1 e Q q =>
  ha H1 e _ fun H2 e2 => hb H2 (e.trans e2) _ fun H3 e3 => ⟨i, j, rfl, rfl, _, rfl, by
    cases h : decide (i ≤ j) with
    | true =>
      rw [if_pos rfl]
      exact hc H3 ((e.trans e2).trans e3) _ fun H4 e4 => ⟨j, l, rfl, rfl, by have := q H4 ((e2.trans e3).trans e4); rw [h, Bool.true_and] at this; exact this⟩
    | false =>
      rw [if_neg Bool.false_ne_true]
      have := q H3 (e2.trans e3)
      rw [h, Bool.false_and] at this
      exact this⟩
theorem begins_no {s : Hall} {r c : Nat} (h : ¬ (1 ≤ r ∧ r ≤ 4 ∧ 1 ≤ c ∧ c ≤ 4)) : (Sy85.step s (.begins r c)).1 = s ∧ ansOf s (.begins r c) = [-1] := by
  have e : (r < 1 ∨ 4 < r ∨ c < 1 ∨ 4 < c) := by omega
  constructor
  · show (if (r < 1 ∨ 4 < r ∨ c < 1 ∨ 4 < c) then _ else _ : Hall × Sy85.Ans).1 = s
    rw [if_pos e]
  · show Sy85Neutral.out (if (r < 1 ∨ 4 < r ∨ c < 1 ∨ 4 < c) then _ else _ : Hall × Sy85.Ans).2 = _
    rw [if_pos e]
    rfl
theorem begins_yes {s : Hall} {r c : Nat} (h : 1 ≤ r ∧ r ≤ 4 ∧ 1 ≤ c ∧ c ≤ 4) : (Sy85.step s (.begins r c)).1 = ⟨r, c, [], [], []⟩ ∧ ansOf s (.begins r c) = [((r * c : Nat) : Int)] := by
  have e : ¬ (r < 1 ∨ 4 < r ∨ c < 1 ∨ 4 < c) := by omega
  constructor
  · show (if (r < 1 ∨ 4 < r ∨ c < 1 ∨ 4 < c) then _ else _ : Hall × Sy85.Ans).1 = _
    rw [if_neg e]
  · show Sy85Neutral.out (if (r < 1 ∨ 4 < r ∨ c < 1 ∨ 4 < c) then _ else _ : Hall × Sy85.Ans).2 = _
    rw [if_neg e]
    rfl
theorem ok_begins {f : Addr} {fd : FuncData} (Fn : Fun K "begins" "Plan.begins" (inPlan 1) f fd) (T : Txt K mg C) : FnOk P w K mg base CX0 1 f fd ["self", "many_rows", "many_columns"] (spBegins C) := by
  refine Fn.ok scBegins (fun vs H Q E h => ?_) (fun cdv A outer sh F vs Q E hr h => ?_)
  · obtain ⟨a, s, r, c, rfl, _⟩ := h
    rfl
  · obtain ⟨a, s, r, c, rfl, hp, k⟩ := h
    refine ⟨_, pss_cons (ps_if (pt_not (PW.pt (pw_and (pt_chain op_le op_le pe_int (pv 1) (pe_const T.cRows)) (pw_and1 (pt_chain op_le op_le pe_int (pv 2) (pe_const T.cCols)))))) (pss_one (ps_ret (pe_lst (pa_cons (pe_const T.cWrong) pa_nil)))) pss_nil)
      (pss_cons (ps_fld (pv 0) (pv 1) rfl) (pss_cons (ps_fld (pv 0) (pv 2) rfl) (pss_cons (ps_fld (pv 0) pe_dnewK rfl) (pss_cons (ps_fld (pv 0) pe_dnewK rfl)
      (pss_one (ps_ret (pe_lst (pa_cons (pe_op op_mul (pv 1) (pv 2)) pa_nil)))))))), ?_⟩
    obtain ⟨Hs, eHs, hps, nls⟩ := small_of hp
    refine g_ifRet (H := Hs) eHs (P := IL [-1]) (b := !(((decide ((1 : Int) ≤ r) && decide ((r : Int) ≤ 4))) && (decide ((1 : Int) ≤ c) && decide ((c : Int) ≤ 4)))) (et_not (et_and (et_test (ev_chain ev_c (ev_var rfl) ev_c)) fun _ => et_test (ev_chain ev_c (ev_var rfl) ev_c))) (fun _ => gv_int1 gv_c) (fun hb v H' F' x p => ?_) fun hb F1 x1 => ?_
    · have hno : ¬ (1 ≤ r ∧ r ≤ 4 ∧ 1 ≤ c ∧ c ≤ 4) := by
        rintro ⟨h1, h2, h3, h4⟩
        have e1 : decide ((1 : Int) ≤ r) = true := decide_eq_true (by omega)
        have e2 : decide ((r : Int) ≤ 4) = true := decide_eq_true (by omega)
        have e3 : decide ((1 : Int) ≤ c) = true := decide_eq_true (by omega)
        have e4 : decide ((c : Int) ≤ 4) = true := decide_eq_true (by omega)
        rw [e1, e2, e3, e4] at hb
        cases hb
      obtain ⟨e1, e2⟩ := begins_no (s := s) hno
      rw [e1, e2] at k
      exact k.same x hps nls p
    have hyes : 1 ≤ r ∧ r ≤ 4 ∧ 1 ≤ c ∧ c ≤ 4 := by
      simp only [Bool.not_eq_false', Bool.and_eq_true, decide_eq_true_eq] at hb
      omega
    obtain ⟨e1, e2⟩ := begins_yes (s := s) hyes
    rw [e1, e2] at k
    obtain ⟨a', dx, dp, dm, kp, km, g1, g2, g3, g4, g5, g6, g7, g8⟩ := Stb.ex x1.f hp
    obtain rfl : a = a' := by injection g1
    refine ⟨_, rfl, _, rfl, a, C, dx, _, rfl, g2, T.cl, T.nR, (by show 4 < 1000; decide), ?_⟩
    rw [pf_rows]
    refine ⟨_, rfl, _, rfl, a, C, dx, _, rfl, upd_same, T.cl, T.nC, (by show 4 < 1000; decide), ?_⟩
    rw [pf_cols, upd_upd]
    intro p1 hp1
    have n1 : a ≠ p1 := fun q => by
      subst q
      rw [upd_same] at hp1
      cases hp1
    refine ⟨_, rfl, a, C, dx, _, rfl, (upd_ne n1).trans upd_same, T.cl, T.nP, (by show 4 < 1000; decide), ?_⟩
    rw [pf_pil]
    intro p2 hp2
    have n2 : a ≠ p2 := fun q => by
      subst q
      rw [upd_same] at hp2
      cases hp2
    have n3 : p1 ≠ p2 := fun q => by
      subst q
      rw [upd_ne (fun q => n1 q.symm), upd_same] at hp2
      cases hp2
    refine ⟨_, rfl, a, C, dx, _, rfl, (upd_ne n2).trans upd_same, T.cl, T.nM, (by show 4 < 1000; decide), ?_⟩
    rw [pf_mrk]
    have hp1' : F1 p1 = none := by
      rw [upd_ne (fun q => n1 q.symm)] at hp1
      exact hp1
    have hp2' : F1 p2 = none := by
      rw [upd_ne (fun q => n2 q.symm), upd_ne (fun q => n3 q.symm), upd_ne (fun q => n2 q.symm)] at hp2
      exact hp2
    generalize hF5 : upd (upd (upd (upd (upd F1 a _) p1 (.dK [])) a _) p2 (.dK [])) a (.ins C dx (plF r c p1 p2)) = F5
    have f5 : ∀ b o, F1 b = some o → b ≠ a → F5 b = some o := by
      intro b o hb hba
      rw [← hF5, upd_ne hba, upd_ne (ne_of_none hb hp2'), upd_ne hba, upd_ne (ne_of_none hb hp1'), upd_ne hba]
      exact hb
    have k5 : Kept F1 F5 := fun b o hb m1 m2 => f5 b o hb fun q => by
      subst q
      rw [g2] at hb
      exact m1 _ _ _ (Option.some.inj hb).symm
    have back5 : ∀ b, F5 b = none → F1 b = none := by
      intro b hb
      cases h : F1 b with
      | none => rfl
      | some o =>
        by_cases q : b = a
        · subst q
          rw [← hF5, upd_same] at hb
          cases hb
        · rw [f5 b o h q] at hb
          cases hb
    have pl5 : PlanP C ⟨r, c, [], [], []⟩ (.ref a) F5 := by
      refine ⟨a, dx, p1, p2, [], [], rfl, ?_, ?_, ?_, n3, pfits_new r c, mfits_new r c, wf_begins ⟨hyes.1, hyes.2.1, hyes.2.2.1, hyes.2.2.2⟩⟩
      · rw [← hF5]
        exact upd_same
      · rw [← hF5, upd_ne (fun q => n1 q.symm), upd_ne n3, upd_ne (fun q => n1 q.symm)]
        exact upd_same
      · rw [← hF5, upd_ne (fun q => n2 q.symm)]
        exact upd_same
    dsimp only
    refine g_ret (H := fun _ => none) (fun _ _ h => by cases h) (P := IL [((r * c : Nat) : Int)]) (gv_int1 ?_) fun v H' F' x p => ?_
    · have := gv_I (C := CMul) (g := fun i j => .int (i * j)) (σ := [some (.ref a), some (nv r), some (nv c)]) (H := fun _ => none) (ta := tVar 1) (tb := tVar 2) (i := (r : Int)) (j := (c : Int)) (gv_var rfl rfl) (gv_var rfl rfl) (.inl ⟨by omega, by omega⟩)
      rw [nv_mul] at this
      exact this
    · obtain ⟨b, rfl, hb, hb2⟩ := fresh_of x (fun _ _ h => by cases h) p
      refine k b F' ((Kept.of_ex x1.f).trans (k5.trans (Kept.of_ex x.f))) (Stb.ex x.f pl5) ?_ hb2
      exact fresh_back x1.f (back5 b hb)
end
end La
set_option Elab.async false
set_option linter.all false
set_option maxRecDepth 100000
set_option maxHeartbeats 4000000
namespace La
open PySem PySem.Spec PyProof.Rows L2 Evl
/-! ### dicts that fit, changed -/
theorem keyN (n m : Nat) : ((Sum.inl (n : Int) : L2.Key) = Sum.inl (m : Int)) ↔ n = m := ⟨fun h => by injection h with h; omega, fun h => by rw [h]⟩
theorem keys_put {kp : List (L2.Key × V)} {ks : List Nat} (x : Nat) (v : V) (hn : ks.Nodup) (hk : kp.map (·.1) = (ks.map fun (n : Nat) => (n : Int)).map Sum.inl) :
    ∃ ks' : List Nat, ks'.Nodup ∧ (putK kp (Sum.inl (x : Int)) v).map (·.1) = (ks'.map fun (n : Nat) => (n : Int)).map Sum.inl ∧ ∀ n, n ∈ ks' ↔ n = x ∨ n ∈ ks := by
  by_cases hx : x ∈ ks
  · refine ⟨ks, hn, ?_, fun n => ⟨.inr, fun h => by rcases h with rfl | h; exact hx; exact h⟩⟩
    have hin : (kp.any fun kv => decide (kv.1 = (Sum.inl (x : Int) : L2.Key))) = true := by
      rw [List.any_eq_true]
      have : (Sum.inl (x : Int) : L2.Key) ∈ kp.map (·.1) := by
        rw [hk]
        exact List.mem_map_of_mem (List.mem_map_of_mem (f := fun (n : Nat) => (n : Int)) hx)
      obtain ⟨p, hp, e⟩ := List.mem_map.mp this
      exact ⟨p, hp, decide_eq_true e⟩
    unfold putK
    rw [if_pos hin, List.map_map, ← hk]
    apply List.map_congr_left
    intro kv _
    show (if kv.1 = _ then _ else _ : L2.Key × V).1 = kv.1
    split
    · rfl
    · rfl
  · have hno : ¬ (Sum.inl (x : Int) : L2.Key) ∈ kp.map (·.1) := by
      rw [hk]
      intro m
      obtain ⟨i, hi, e⟩ := List.mem_map.mp m
      obtain ⟨n, hn', rfl⟩ := List.mem_map.mp hi
      have : n = x := (keyN n x).mp e
      exact hx (this ▸ hn')
    have hv : valV kp (Sum.inl (x : Int)) = none := by
      cases h : valV kp (Sum.inl (x : Int)) with
      | none => rfl
      | some u => exact absurd (valV_in h) hno
    refine ⟨ks ++ [x], nd_snoc hn hx, ?_, fun n => ?_⟩
    · rw [putK_new v hv, List.map_append, List.map_append, List.map_append, hk]
      rfl
    · rw [List.mem_append, List.mem_singleton]
      exact ⟨fun h => h.symm, fun h => h.symm⟩
theorem keys_drop {kp : List (L2.Key × V)} {ks : List Nat} (x : Nat) (hn : ks.Nodup) (hk : kp.map (·.1) = (ks.map fun (n : Nat) => (n : Int)).map Sum.inl) :
    ∃ ks' : List Nat, ks'.Nodup ∧ (dropK kp (Sum.inl (x : Int))).map (·.1) = (ks'.map fun (n : Nat) => (n : Int)).map Sum.inl ∧ ∀ n, n ∈ ks' ↔ n ≠ x ∧ n ∈ ks := by
  refine ⟨ks.filter fun n => decide (n ≠ x), List.Pairwise.filter _ hn, ?_, fun n => ?_⟩
  · unfold dropK
    have e1 : (kp.filter fun kv => decide (kv.1 ≠ (Sum.inl (x : Int) : L2.Key))).map (·.1) = (kp.map (·.1)).filter fun k => decide (k ≠ (Sum.inl (x : Int) : L2.Key)) := by
      rw [List.filter_map]
      rfl
    rw [e1, hk, List.filter_map, List.filter_map]
    congr 2
    apply List.filter_congr
    intro n _
    show decide (¬ (Sum.inl (n : Int) : L2.Key) = Sum.inl (x : Int)) = decide (¬ n = x)
    exact dec_iff (not_congr (keyN n x))
  · rw [List.mem_filter, decide_eq_true_eq]
    exact ⟨fun h => ⟨h.2, h.1⟩, fun h => ⟨h.2, h.1⟩⟩
theorem valV_drop (x y : Nat) : ∀ kp : List (L2.Key × V), valV (dropK kp (Sum.inl (x : Int))) (Sum.inl (y : Int)) = if y = x then none else valV kp (Sum.inl (y : Int))
  | [] => by simp [dropK, valV_nil]
  | p :: r => by
    have ih := valV_drop x y r
    by_cases e : p.1 = (Sum.inl (x : Int) : L2.Key)
    · rw [dropK_pos e, ih]
      by_cases h : y = x
      · rw [if_pos h, if_pos h]
      · rw [if_neg h, if_neg h, valV_neg (fun q => h ((keyN y x).mp (q.symm.trans e)))]
    · rw [dropK_neg e]
      by_cases q : p.1 = (Sum.inl (y : Int) : L2.Key)
      · have : ¬ y = x := fun h => e (by rw [q, h])
        rw [valV_pos q, if_neg this, valV_pos q]
      · rw [valV_neg q, ih, valV_neg q]
theorem pfits_put {s : Hall} {kp : List (L2.Key × V)} (w : Wf s) (f : PFits s kp) (x : Nat) (o : Option Nat) : PFits { s with pillars := Sy85.putPillar (x, o) s.pillars } (putK kp (Sum.inl (x : Int)) (nv (o.getD 9))) := by
  obtain ⟨ks, k1, k2, k3⟩ := f.keys
  obtain ⟨ks', p1, p2, p3⟩ := keys_put x (nv (o.getD 9)) k1 k2
  refine ⟨⟨ks', p1, p2, fun n => ?_⟩, fun n => ?_⟩
  · rw [p3, k3, isPillar_iff, isPillar_iff, put_keys]
  · rw [valV_put, numOf_put w, f.val n]
    by_cases h : n = x
    · rw [if_pos ((keyN n x).mpr h), if_pos h]
      rfl
    · rw [if_neg (fun q => h ((keyN n x).mp q)), if_neg h]
theorem pfits_drop {s : Hall} {kp : List (L2.Key × V)} (f : PFits s kp) (x : Nat) : PFits { s with pillars := s.pillars.filter fun q => q.1 != x } (dropK kp (Sum.inl (x : Int))) := by
  obtain ⟨ks, k1, k2, k3⟩ := f.keys
  obtain ⟨ks', p1, p2, p3⟩ := keys_drop x k1 k2
  refine ⟨⟨ks', p1, p2, fun n => ?_⟩, fun n => ?_⟩
  · rw [p3, k3, isPillar_iff, isPillar_iff]
    show n ≠ x ∧ n ∈ s.pillars.map (·.1) ↔ n ∈ (s.pillars.filter fun q => q.1 != x).map (·.1)
    constructor
    · rintro ⟨h1, h2⟩
      obtain ⟨p, hp, rfl⟩ := List.mem_map.mp h2
      have hm : p ∈ s.pillars.filter fun q => q.1 != x := List.mem_filter.mpr ⟨hp, (bne_iff_ne.mpr h1 : (p.1 != x) = true)⟩
      exact List.mem_map_of_mem hm
    · intro h
      obtain ⟨p, hp, rfl⟩ := List.mem_map.mp h
      rw [List.mem_filter] at hp
      exact ⟨by simpa using hp.2, List.mem_map_of_mem hp.1⟩
  · rw [valV_drop, numOf_gone, f.val n]
    by_cases h : n = x
    · rw [if_pos h, if_pos h]
      rfl
    · rw [if_neg h, if_neg h]
theorem mfits_same {s t : Hall} {km : List (L2.Key × V)} (f : MFits s km) (h1 : t.lamps = s.lamps) (h2 : t.bare = s.bare) : MFits t km := by
  obtain ⟨ks, k1, k2, k3⟩ := f.keys
  exact ⟨⟨ks, k1, k2, fun n => by rw [k3, h1, h2]⟩, fun n => by rw [f.val, h1, h2]⟩
theorem pfits_same {s t : Hall} {kp : List (L2.Key × V)} (f : PFits s kp) (h : t.pillars = s.pillars) : PFits t kp := by
  obtain ⟨ks, k1, k2, k3⟩ := f.keys
  exact ⟨⟨ks, k1, k2, fun n => by rw [k3, isPillar_eq h.symm]⟩, fun n => by rw [f.val]; unfold numOf; rw [h]⟩
theorem dropK_none {kp : List (L2.Key × V)} {k : L2.Key} (h : valV kp k = none) : dropK kp k = kp := dropK_no (valV_not h)
/-- the marks, the cell's own taken away, then set again where it is to be -/
theorem mfits_mark {s : Hall} {km : List (L2.Key × V)} (w : Wf s) (f : MFits s km) (x k : Nat) (hk : k ≤ 2) : MFits (markedBy s x k) (if k = 0 then dropK km (Sum.inl (x : Int)) else putK (dropK km (Sum.inl (x : Int))) (Sum.inl (x : Int)) (nv k)) := by
  obtain ⟨ks, k1, k2, k3⟩ := f.keys
  obtain ⟨ks', p1, p2, p3⟩ := keys_drop x k1 k2
  have hv : ∀ n : Nat, n ≠ x → valV km (Sum.inl (n : Int)) = if n ∈ (markedBy s x k).lamps then some (nv 1) else if n ∈ (markedBy s x k).bare then some (nv 2) else none := by
    intro n hn
    rw [f.val n]
    have e1 : n ∈ (markedBy s x k).lamps ↔ n ∈ s.lamps := by
      rw [mem_mlamps]
      exact ⟨fun h => by rcases h with h | h; exact absurd h.1 hn; exact h.2, fun h => .inr ⟨hn, h⟩⟩
    have e2 : n ∈ (markedBy s x k).bare ↔ n ∈ s.bare := by
      rw [mem_mbare]
      exact ⟨fun h => by rcases h with h | h; exact absurd h.1 hn; exact h.2, fun h => .inr ⟨hn, h⟩⟩
    simp only [e1, e2]
  have hx : (if x ∈ (markedBy s x k).lamps then some (nv 1) else if x ∈ (markedBy s x k).bare then some (nv 2) else none : Option V) = if k = 0 then none else some (nv k) := by
    have e1 : x ∈ (markedBy s x k).lamps ↔ k = 1 := by
      rw [mem_mlamps]
      exact ⟨fun h => by rcases h with h | h; exact h.2; exact absurd rfl h.1, fun h => .inl ⟨rfl, h⟩⟩
    have e2 : x ∈ (markedBy s x k).bare ↔ k = 2 := by
      rw [mem_mbare]
      exact ⟨fun h => by rcases h with h | h; exact h.2; exact absurd rfl h.1, fun h => .inl ⟨rfl, h⟩⟩
    simp only [e1, e2]
    match k, hk with
    | 0, _ => rfl
    | 1, _ => rfl
    | 2, _ => rfl
  have hmem : ∀ n, n ∈ (markedBy s x k).lamps ∨ n ∈ (markedBy s x k).bare ↔ (n = x ∧ k ≠ 0) ∨ (n ≠ x ∧ n ∈ ks) := by
    intro n
    rw [mem_mlamps, mem_mbare, k3]
    constructor
    · rintro ((⟨h1, h2⟩ | ⟨h1, h2⟩) | (⟨h1, h2⟩ | ⟨h1, h2⟩))
      · exact .inl ⟨h1, by omega⟩
      · exact .inr ⟨h1, .inl h2⟩
      · exact .inl ⟨h1, by omega⟩
      · exact .inr ⟨h1, .inr h2⟩
    · rintro (⟨h1, h2⟩ | ⟨h1, h2 | h2⟩)
      · by_cases q : k = 1
        · exact .inl (.inl ⟨h1, q⟩)
        · exact .inr (.inl ⟨h1, by omega⟩)
      · exact .inl (.inr ⟨h1, h2⟩)
      · exact .inr (.inr ⟨h1, h2⟩)
  by_cases h0 : k = 0
  · rw [if_pos h0]
    refine ⟨⟨ks', p1, p2, fun n => ?_⟩, fun n => ?_⟩
    · rw [p3, hmem]
      exact ⟨.inr, fun h => by rcases h with h | h; exact absurd h0 h.2; exact h⟩
    · rw [valV_drop]
      by_cases h : n = x
      · subst h
        rw [if_pos rfl, hx, if_pos h0]
      · rw [if_neg h, hv n h]
  · rw [if_neg h0]
    obtain ⟨ks2, r1, r2, r3⟩ := keys_put x (nv k) p1 p2
    refine ⟨⟨ks2, r1, r2, fun n => ?_⟩, fun n => ?_⟩
    · rw [r3, p3, hmem]
      exact ⟨fun h => by rcases h with h | h; exact .inl ⟨h, h0⟩; exact .inr h, fun h => by rcases h with h | h; exact .inl h.1; exact .inr h⟩
    · rw [valV_put, valV_drop]
      by_cases h : n = x
      · subst h
        rw [if_pos rfl, hx, if_neg h0]
      · rw [if_neg (fun q => h ((keyN n x).mp q)), if_neg h, hv n h]
section
variable {P : Program} {w : World} {K : PySem.W.Frag} {mg : Str → Option Value} {base : Heap} {C : Addr}
theorem gv_mkd {σ : L2.St} {H : Hp} {te : TE} {s : Hall} (T : Txt K mg C) (h : Gv te σ H (PlanP C s)) : Gv (tFld K te "marks") σ H (PD (fun n => decide (n ∈ s.lamps ∨ n ∈ s.bare))) := (gv_mrk T h).imp fun _ _ _ => mrk_pd
/-! ### pillar -/
def spPillar (C : Addr) : Sp := fun vs F Q _ => ∃ (self : Addr) (s : Hall) (x n : Nat), vs = [.ref self, nv x, nv n] ∧ PlanP C s (.ref self) F ∧ Post C (Sy85.step s (.pillar x n)).1 (ansOf s (.pillar x n)) self F Q
theorem scPillar : FnScope ["self", "cell", "number"] ["self", "cell", "number"] (defScope (inPlan 2)) := ⟨rfl, rfl, rfl, by decide +kernel, rfl, by decide +kernel, by decide +kernel⟩
theorem pillar_step (s : Hall) (x n : Nat) : Sy85.step s (.pillar x n) = (if s.rows * s.cols ≤ x then (s, Sy85.ok (-2)) else if 4 < n ∧ n ≠ 9 then (s, Sy85.ok (-1)) else if s.lamps.contains x = true ∨ s.bare.contains x = true then (s, Sy85.ok (-4)) else
    ({ s with pillars := Sy85.putPillar (x, if n = 9 then none else some n) s.pillars }, Sy85.ok ((Sy85.putPillar (x, if n = 9 then none else some n) s.pillars).length : Nat))) := rfl
theorem ok_pillar {f : Addr} {fd : FuncData} (Fn : Fun K "pillar" "Plan.pillar" (inPlan 2) f fd) (T : Txt K mg C) (HC : HasM P w K mg base C "has_cell" 1 ["self", "cell"] (spHasCell C)) : FnOk P w K mg base CX0 2 f fd ["self", "cell", "number"] (spPillar C) := by
  refine Fn.ok scPillar (fun vs H Q E h => ?_) (fun cdv A outer sh F vs Q E hr h => ?_)
  · obtain ⟨a, s, x, n, rfl, _⟩ := h
    rfl
  · obtain ⟨a, s, x, n, rfl, hp, k⟩ := h
    refine ⟨_, pss_cons (ps_if (pt_not (pt_val (pe_hasM (pv 0) T.cl HC hr (pa_cons (pv 1) pa_nil)))) (pss_one (ps_ret (pe_lst (pa_cons (pe_const T.cNoSuch) pa_nil)))) pss_nil)
      (pss_cons (ps_if (PW.pt (pw_and (pt_cmpR op_gt (pv 2) (pe_const T.cBeside) (nomark _)) (pw_and1 (pt_cmpR op_ne (pv 2) (pe_const T.cNoNum) (nomark _))))) (pss_one (ps_ret (pe_lst (pa_cons (pe_const T.cWrong) pa_nil)))) pss_nil)
      (pss_cons (ps_if (pt_cmp (pc_din (hu_of hr) (pv 1) (pe_fld (pv 0) rfl))) (pss_one (ps_ret (pe_lst (pa_cons (pe_const T.cCell) pa_nil)))) pss_nil)
      (pss_cons (ps_dput (hu_of hr) (pe_fld (pv 0) rfl) (pv 1) (pv 2) rfl)
      (pss_one (ps_ret (pe_lst (pa_cons (pe_callB call_lenD (by rfl) T.b.len boot_len (pa_cons (pe_fld (pv 0) rfl) pa_nil)) pa_nil))))))), ?_⟩
    obtain ⟨Hs, eHs, hps, nls⟩ := small_of hp
    have hself : Gv (tVar 0) (L2.start ["self", "cell", "number"] [.ref a, nv x, nv n]) Hs (PlanP C s) := gv_var rfl hps
    refine g_ifRet (H := Hs) eHs (P := IL [-2]) (b := !decide (x < s.rows * s.cols)) (et_not (et_gvB (gv_hasCell hself fun _ _ => gv_var rfl rfl))) (fun _ => gv_int1 gv_c) (fun hb v H' F' y p => ?_) fun hb F1 x1 => ?_
    · have hx : s.rows * s.cols ≤ x := by simpa using hb
      unfold ansOf at k
      rw [pillar_step, if_pos hx] at k
      exact k.same y hps nls p
    have hx : ¬ s.rows * s.cols ≤ x := by
      have : x < s.rows * s.cols := by simpa using hb
      omega
    refine g_ifRet (H := Hs) x1.s (P := IL [-1]) (b := decide (4 < n) && !decide (n = 9)) (et_and (et_is (et_gv (gv_I0 (gv_var rfl rfl) gv_c)) (dec_iff (by omega))) fun _ => et_is (et_gv (gv_op (gv_var rfl rfl) gv_c (rv_ne rfl))) (by rw [v_eq]; congr 1; exact dec_iff (by omega))) (fun _ => gv_int1 gv_c) (fun hb v H' F' y p => ?_) fun hb2 F2 x2 => ?_
    · have hn : 4 < n ∧ n ≠ 9 := by simpa using hb
      unfold ansOf at k
      rw [pillar_step, if_neg hx, if_pos hn] at k
      exact k.same (x1.trans y) hps nls p
    have hn : ¬ (4 < n ∧ n ≠ 9) := by
      rintro ⟨h1, h2⟩
      rw [decide_eq_true h1, decide_eq_false h2] at hb2
      cases hb2
    refine g_ifRet (H := Hs) x2.s (P := IL [-4]) (b := decide (x ∈ s.lamps ∨ x ∈ s.bare)) (et_gvB (gv_din (P := fun n => decide (n ∈ s.lamps ∨ n ∈ s.bare)) (gv_var rfl rfl) fun H1 e1 => gv_mkd T (gv_var rfl (Stb.ex e1 hps)))) (fun _ => gv_int1 gv_c) (fun hb v H' F' y p => ?_) fun hb3 F3 x3 => ?_
    · have hm : s.lamps.contains x = true ∨ s.bare.contains x = true := by simpa using hb
      unfold ansOf at k
      rw [pillar_step, if_neg hx, if_neg hn, if_pos hm] at k
      exact k.same ((x1.trans x2).trans y) hps nls p
    have hm' : ¬ (x ∈ s.lamps ∨ x ∈ s.bare) := by simpa using hb3
    have hm : ¬ (s.lamps.contains x = true ∨ s.bare.contains x = true) := by simpa using hm'
    unfold ansOf at k
    rw [pillar_step, if_neg hx, if_neg hn, if_neg hm] at k
    have X3 := (x1.trans x2).trans x3
    obtain ⟨a', dx, dp, dm, kp, km, g1, g2, g3, g4, g5, g6, g7, g8⟩ := Stb.ex X3.f hp
    obtain rfl : a = a' := by injection g1
    have wf := g8
    have n1 : a ≠ dp := ne_of g2 g3 (by intro z; cases z)
    have n2 : dm ≠ dp := fun q => g5 q.symm
    have hkl : kp.length < sizeLine := by
      obtain ⟨d', kp', q1, q2, q3⟩ := pil_len wf (⟨dp, kp, rfl, g3, g6⟩ : PilD s (.ref dp) F3)
      injection q1 with q1
      rw [← q1, g3] at q2
      injection q2 with q2
      injection q2 with q2
      have := pillars_few wf
      rw [q2, q3]
      exact sz_lt (by omega)
    refine ⟨_, rfl, _, rfl, a, C, dx, _, _, rfl, g2, T.cl, T.nP, pl_pil .., _, rfl, dp, _, rfl, DPut.k (k := Sum.inl (x : Int)) g3 hkl, ?_⟩
    have ho : (if n = 9 then none else some n : Option Nat).getD 9 = n := by
      by_cases q : n = 9
      · rw [if_pos q, q]
        rfl
      · rw [if_neg q]
        rfl
    have pf := pfits_put wf g6 x (if n = 9 then none else some n)
    rw [ho] at pf
    have wf2 : Wf { s with pillars := Sy85.putPillar (x, if n = 9 then none else some n) s.pillars } := wf_pillar wf (by omega) (fun m hm => by
      by_cases q : n = 9
      · rw [if_pos q] at hm
        cases hm
      · rw [if_neg q] at hm
        have : n = m := Option.some.inj hm
        omega) (fun h => hm' (.inl h)) (fun h => hm' (.inr h))
    generalize hF4 : upd F3 dp (.dK (putK kp (Sum.inl (x : Int)) (nv n))) = F4
    have k4 : Kept F3 F4 := by
      rw [← hF4]
      exact Kept.dict g3
    have back4 : ∀ b, F4 b = none → F3 b = none := by
      intro b hb
      by_cases q : b = dp
      · subst q
        rw [← hF4, upd_same] at hb
        cases hb
      · rw [← hF4, upd_ne q] at hb
        exact hb
    have pl4 : PlanP C { s with pillars := Sy85.putPillar (x, if n = 9 then none else some n) s.pillars } (.ref a) F4 := by
      refine ⟨a, dx, dp, dm, _, km, rfl, ?_, ?_, ?_, g5, pf, mfits_same g7 rfl rfl, wf2⟩
      · rw [← hF4]
        exact (upd_ne n1).trans g2
      · rw [← hF4]
        exact upd_same
      · rw [← hF4]
        exact (upd_ne n2).trans g4
    obtain ⟨H4, eH4, hp4, nls4⟩ := small_of pl4
    dsimp only
    refine g_ret (H := H4) eH4 (P := IL [((Sy85.putPillar (x, if n = 9 then none else some n) s.pillars).length : Int)]) (gv_int1 (gv_lenD wf2 (gv_pil T (gv_var rfl hp4)))) fun v H' F' y p => ?_
    obtain ⟨b, rfl, hb, hb2⟩ := fresh_of y nls4 p
    exact k b F' (((Kept.of_ex X3.f).trans k4).trans (Kept.of_ex y.f)) (Stb.ex y.f pl4) (fresh_back X3.f (back4 b hb)) hb2
end
end La
set_option Elab.async false
set_option linter.all false
set_option maxRecDepth 100000
set_option maxHeartbeats 4000000
namespace La
open PySem PySem.Spec PyProof.Rows L2 Evl
section
variable {P : Program} {w : World} {K : PySem.W.Frag} {mg : Str → Option Value} {base : Heap} {C : Addr}
/-! ### gone -/
def spGone (C : Addr) : Sp := fun vs F Q _ => ∃ (self : Addr) (s : Hall) (x : Nat), vs = [.ref self, nv x] ∧ PlanP C s (.ref self) F ∧ Post C (Sy85.step s (.gone x)).1 (ansOf s (.gone x)) self F Q
theorem scGone : FnScope ["self", "cell"] ["self", "cell"] (defScope (inPlan 3)) := ⟨rfl, rfl, rfl, by decide +kernel, rfl, by decide +kernel, by decide +kernel⟩
theorem gone_step (s : Hall) (x : Nat) : Sy85.step s (.gone x) = (if s.rows * s.cols ≤ x then (s, Sy85.ok (-2)) else if Sy85.isPillar s x = false then (s, Sy85.ok (-4)) else
    ({ s with pillars := s.pillars.filter fun q => q.1 != x }, Sy85.ok ((s.pillars.filter fun q => q.1 != x).length : Nat))) := rfl
theorem ok_gone {f : Addr} {fd : FuncData} (Fn : Fun K "gone" "Plan.gone" (inPlan 3) f fd) (T : Txt K mg C) (HC : HasM P w K mg base C "has_cell" 1 ["self", "cell"] (spHasCell C)) : FnOk P w K mg base CX0 2 f fd ["self", "cell"] (spGone C) := by
  refine Fn.ok scGone (fun vs H Q E h => ?_) (fun cdv A outer sh F vs Q E hr h => ?_)
  · obtain ⟨a, s, x, rfl, _⟩ := h
    rfl
  · obtain ⟨a, s, x, rfl, hp, k⟩ := h
    refine ⟨_, pss_cons (ps_if (pt_not (pt_val (pe_hasM (pv 0) T.cl HC hr (pa_cons (pv 1) pa_nil)))) (pss_one (ps_ret (pe_lst (pa_cons (pe_const T.cNoSuch) pa_nil)))) pss_nil)
      (pss_cons (ps_if (pt_cmp (pc_dnotin (hu_of hr) (pv 1) (pe_fld (pv 0) rfl))) (pss_one (ps_ret (pe_lst (pa_cons (pe_const T.cCell) pa_nil)))) pss_nil)
      (pss_cons (ps_expr (pe_dpop1 (pe_fld (pv 0) rfl) (pv 1) ⟨rfl, rfl, rfl, rfl⟩))
      (pss_one (ps_ret (pe_lst (pa_cons (pe_callB call_lenD (by rfl) T.b.len boot_len (pa_cons (pe_fld (pv 0) rfl) pa_nil)) pa_nil)))))), ?_⟩
    obtain ⟨Hs, eHs, hps, nls⟩ := small_of hp
    have hself : Gv (tVar 0) (L2.start ["self", "cell"] [.ref a, nv x]) Hs (PlanP C s) := gv_var rfl hps
    refine g_ifRet (H := Hs) eHs (P := IL [-2]) (b := !decide (x < s.rows * s.cols)) (et_not (et_gvB (gv_hasCell hself fun _ _ => gv_var rfl rfl))) (fun _ => gv_int1 gv_c) (fun hb v H' F' y p => ?_) fun hb F1 x1 => ?_
    · have hx : s.rows * s.cols ≤ x := by simpa using hb
      unfold ansOf at k
      rw [gone_step, if_pos hx] at k
      exact k.same y hps nls p
    have hx : ¬ s.rows * s.cols ≤ x := by
      have : x < s.rows * s.cols := by simpa using hb
      omega
    refine g_ifRet (H := Hs) x1.s (P := IL [-4]) (b := !Sy85.isPillar s x) (et_gvB (gv_dnotin (P := Sy85.isPillar s) (gv_var rfl rfl) fun H1 e1 => gv_pd T (gv_var rfl (Stb.ex e1 hps)))) (fun _ => gv_int1 gv_c) (fun hb v H' F' y p => ?_) fun hb2 F2 x2 => ?_
    · have hn : Sy85.isPillar s x = false := by simpa using hb
      unfold ansOf at k
      rw [gone_step, if_neg hx, if_pos hn] at k
      exact k.same (x1.trans y) hps nls p
    have hn' : Sy85.isPillar s x = true := by simpa using hb2
    have hn : ¬ Sy85.isPillar s x = false := by rw [hn']; decide
    unfold ansOf at k
    rw [gone_step, if_neg hx, if_neg hn] at k
    have X3 := x1.trans x2
    obtain ⟨a', dx, dp, dm, kp, km, g1, g2, g3, g4, g5, g6, g7, g8⟩ := Stb.ex X3.f hp
    obtain rfl : a = a' := by injection g1
    have wf := g8
    have n1 : a ≠ dp := ne_of g2 g3 (by intro z; cases z)
    have n2 : dm ≠ dp := fun q => g5 q.symm
    obtain ⟨o, ho⟩ : ∃ o, numOf s x = some o := by
      have := numOf_isSome (s := s) (x := x)
      rw [hn'] at this
      exact Option.isSome_iff_exists.mp this
    have hval := g6.val x
    rw [ho] at hval
    have pf := pfits_drop g6 x
    have wf2 := wf_gone wf x
    refine ⟨_, rfl, a, C, dx, _, _, rfl, g2, T.cl, T.nP, pl_pil .., dp, rfl, .inl ⟨_, .inl g3⟩, _, rfl, _, Sum.inl (x : Int), _, g3, rfl, hval, ?_⟩
    generalize hF4 : upd F2 dp (.dK (dropK kp (Sum.inl (x : Int)))) = F4
    have k4 : Kept F2 F4 := by
      rw [← hF4]
      exact Kept.dict g3
    have back4 : ∀ b, F4 b = none → F2 b = none := by
      intro b hb
      by_cases q : b = dp
      · subst q
        rw [← hF4, upd_same] at hb
        cases hb
      · rw [← hF4, upd_ne q] at hb
        exact hb
    have pl4 : PlanP C { s with pillars := s.pillars.filter fun q => q.1 != x } (.ref a) F4 := by
      refine ⟨a, dx, dp, dm, _, km, rfl, ?_, ?_, ?_, g5, pf, mfits_same g7 rfl rfl, wf2⟩
      · rw [← hF4]
        exact (upd_ne n1).trans g2
      · rw [← hF4]
        exact upd_same
      · rw [← hF4]
        exact (upd_ne n2).trans g4
    obtain ⟨H4, eH4, hp4, nls4⟩ := small_of pl4
    dsimp only
    refine g_ret (H := H4) eH4 (P := IL [((s.pillars.filter fun (q : Nat × Option Nat) => q.1 != x).length : Int)]) (gv_int1 (gv_lenD wf2 (gv_pil T (gv_var rfl hp4)))) fun v H' F' y p => ?_
    obtain ⟨b, rfl, hb, hb2⟩ := fresh_of y nls4 p
    exact k b F' (((Kept.of_ex X3.f).trans k4).trans (Kept.of_ex y.f)) (Stb.ex y.f pl4) (fresh_back X3.f (back4 b hb)) hb2
/-! ### mark -/
def spMark (C : Addr) : Sp := fun vs F Q _ => ∃ (self : Addr) (s : Hall) (x n : Nat), vs = [.ref self, nv x, nv n] ∧ PlanP C s (.ref self) F ∧ Post C (Sy85.step s (.mark x n)).1 (ansOf s (.mark x n)) self F Q
theorem scMark : FnScope ["self", "cell", "how"] ["self", "cell", "how"] (defScope (inPlan 4)) := ⟨rfl, rfl, rfl, by decide +kernel, rfl, by decide +kernel, by decide +kernel⟩
theorem mark_step (s : Hall) (x n : Nat) : Sy85.step s (.mark x n) = (if s.rows * s.cols ≤ x then (s, Sy85.ok (-2)) else if 2 < n then (s, Sy85.ok (-1)) else if Sy85.isPillar s x = true then (s, Sy85.ok (-4)) else
    (markedBy s x n, Sy85.ok 0)) := rfl
theorem ev_notin {σ : L2.St} {H : Hp} {ta tr : TE} {n : Nat} {l : List Nat} (ha : Ev ta σ H (nv n)) (hb : EvU tr σ H (l.map nv)) : Ev (tOp (rIn K true) ta tr) σ H (.bl (!decide (n ∈ l))) := by
  have := ev_niU (K := K) ha hb rfl (flat_nv l)
  rw [inV_nv] at this
  exact this
theorem ok_mark {f : Addr} {fd : FuncData} (Fn : Fun K "mark" "Plan.mark" (inPlan 4) f fd) (T : Txt K mg C) (HC : HasM P w K mg base C "has_cell" 1 ["self", "cell"] (spHasCell C)) : FnOk P w K mg base CX0 2 f fd ["self", "cell", "how"] (spMark C) := by
  refine Fn.ok scMark (fun vs H Q E h => ?_) (fun cdv A outer sh F vs Q E hr h => ?_)
  · obtain ⟨a, s, x, n, rfl, _⟩ := h
    rfl
  · obtain ⟨a, s, x, n, rfl, hp, k⟩ := h
    refine ⟨_, pss_cons (ps_if (pt_not (pt_val (pe_hasM (pv 0) T.cl HC hr (pa_cons (pv 1) pa_nil)))) (pss_one (ps_ret (pe_lst (pa_cons (pe_const T.cNoSuch) pa_nil)))) pss_nil)
      (pss_cons (ps_if (pt_cmpR op_notIn_seq (pv 2) (pe_tup (pa_cons (pe_const T.cNot) (pa_cons (pe_const T.cWith) (pa_cons (pe_const T.cWithout) pa_nil)))) (by rfl)) (pss_one (ps_ret (pe_lst (pa_cons (pe_const T.cWrong) pa_nil)))) pss_nil)
      (pss_cons (ps_if (pt_cmp (pc_din (hu_of hr) (pv 1) (pe_fld (pv 0) rfl))) (pss_one (ps_ret (pe_lst (pa_cons (pe_const T.cCell) pa_nil)))) pss_nil)
      (pss_cons (ps_expr (pe_dpop2 (pe_fld (pv 0) rfl) (pv 1) (pe_const T.cNot) ⟨rfl, rfl, rfl, rfl⟩))
      (pss_cons (ps_if (pt_cmpR op_ne (pv 2) (pe_const T.cNot) (nomark _)) (pss_one (ps_dput (hu_of hr) (pe_fld (pv 0) rfl) (pv 1) (pv 2) rfl)) pss_nil)
      (pss_one (ps_ret (pe_lst (pa_cons pe_int pa_nil)))))))), ?_⟩
    obtain ⟨Hs, eHs, hps, nls⟩ := small_of hp
    have hself : Gv (tVar 0) (L2.start ["self", "cell", "how"] [.ref a, nv x, nv n]) Hs (PlanP C s) := gv_var rfl hps
    refine g_ifRet (H := Hs) eHs (P := IL [-2]) (b := !decide (x < s.rows * s.cols)) (et_not (et_gvB (gv_hasCell hself fun _ _ => gv_var rfl rfl))) (fun _ => gv_int1 gv_c) (fun hb v H' F' y p => ?_) fun hb F1 x1 => ?_
    · have hx : s.rows * s.cols ≤ x := by simpa using hb
      unfold ansOf at k
      rw [mark_step, if_pos hx] at k
      exact k.same y hps nls p
    have hx : ¬ s.rows * s.cols ≤ x := by
      have : x < s.rows * s.cols := by simpa using hb
      omega
    refine g_ifRet (H := Hs) x1.s (P := IL [-1]) (b := !decide (n ∈ [0, 1, 2])) (et_test (ev_notin (l := [0, 1, 2]) (ev_var rfl) (eu_tup (ea_cons ev_c (ea_cons ev_c (ea_cons ev_c ea_nil))) (by show 3 ≤ 100000; decide)))) (fun _ => gv_int1 gv_c) (fun hb v H' F' y p => ?_) fun hb2 F2 x2 => ?_
    · have hn : 2 < n := by
        have : ¬ n ∈ [0, 1, 2] := by simpa using hb
        simp only [List.mem_cons, List.not_mem_nil, or_false] at this
        omega
      unfold ansOf at k
      rw [mark_step, if_neg hx, if_pos hn] at k
      exact k.same (x1.trans y) hps nls p
    have hn : ¬ 2 < n := by
      have : n ∈ [0, 1, 2] := by
        have h9 := (Bool.not_eq_false' (b := decide (n ∈ [0, 1, 2]))).mp hb2
        exact of_decide_eq_true h9
      simp only [List.mem_cons, List.not_mem_nil, or_false] at this
      omega
    refine g_ifRet (H := Hs) x2.s (P := IL [-4]) (b := Sy85.isPillar s x) (et_gvB (gv_din (P := Sy85.isPillar s) (gv_var rfl rfl) fun H1 e1 => gv_pd T (gv_var rfl (Stb.ex e1 hps)))) (fun _ => gv_int1 gv_c) (fun hb v H' F' y p => ?_) fun hb3 F3 x3 => ?_
    · unfold ansOf at k
      rw [mark_step, if_neg hx, if_neg hn, if_pos hb] at k
      exact k.same ((x1.trans x2).trans y) hps nls p
    unfold ansOf at k
    rw [mark_step, if_neg hx, if_neg hn, if_neg (by rw [hb3]; decide)] at k
    have X3 := (x1.trans x2).trans x3
    obtain ⟨a', dx, dp, dm, kp, km, g1, g2, g3, g4, g5, g6, g7, g8⟩ := Stb.ex X3.f hp
    obtain rfl : a = a' := by injection g1
    have wf := g8
    have n1 : a ≠ dm := ne_of g2 g4 (by intro z; cases z)
    have wf2 := wf_mark wf (x := x) (k := n) (by omega) hb3
    obtain ⟨m1, m2, m3⟩ := markedBy_keep s x n
    have mf := mfits_mark wf g7 x n (by omega)
    have kml : (dropK km (Sum.inl (x : Int))).length < sizeLine := by
      obtain ⟨ks, k1, k2, k3⟩ := g7.keys
      have e1 : km.length = ks.length := by
        have := congrArg List.length k2
        simpa using this
      have e2 : ks.length ≤ 16 := few k1 fun m hm => by
        rcases (k3 m).mp hm with h | h
        · exact lt16 wf.size (wf.llt m h).1
        · exact lt16 wf.size (wf.blt m h).1
      have e3 : (dropK km (Sum.inl (x : Int))).length ≤ km.length := List.length_filter_le _ _
      exact sz_lt (by omega)
    -- the rest, from the dict without the cell
    have rest : ∀ z : V, ∀ F4 : Hp, Kept F3 F4 → (∀ b, F4 b = none → F3 b = none) → F4 a = some (.ins C dx (plF s.rows s.cols dp dm)) → F4 dp = some (.dK kp) → F4 dm = some (.dK (dropK km (Sum.inl (x : Int)))) →
        tSeq (tIfS (tTest (tOp rNe (tVar 2) (tC (.int 0)))) (sDPut (tFld K (tVar 0) "marks") (tVar 1) (tVar 2)) tNext) (tRet (tLst (tCons (tC (.int 0)) tNil))) { nx := fun _ H' => Q .non H', rt := Q } [some (.ref a), some (nv x), some (nv n)] F4 := by
      intro z F4 k4 back4 f1 f2 f3
      have fin : ∀ F5 : Hp, Kept F3 F5 → (∀ b, F5 b = none → F3 b = none) → PlanP C (markedBy s x n) (.ref a) F5 → tRet (tLst (tCons (tC (.int 0)) tNil)) { nx := fun _ H' => Q .non H', rt := Q } [some (.ref a), some (nv x), some (nv n)] F5 := by
        intro F5 k5 back5 pl5
        obtain ⟨H5, eH5, hp5, nls5⟩ := small_of pl5
        refine g_ret (H := H5) eH5 (P := IL [0]) (gv_int1 gv_c) fun v H' F' y p => ?_
        obtain ⟨b, rfl, hb, hb2⟩ := fresh_of y nls5 p
        exact k b F' (((Kept.of_ex X3.f).trans k5).trans (Kept.of_ex y.f)) (Stb.ex y.f pl5) (fresh_back X3.f (back5 b hb)) hb2
      refine g_seqIf (H := F4) (b := !decide (n = 0)) (Ex.refl F4) (et_is (et_gv (gv_op (gv_var rfl rfl) gv_c (rv_ne rfl))) (by rw [v_eq]; congr 1; exact dec_iff (by omega))) (fun hb F5 e5 => ?_) (fun hb F5 e5 => ?_)
      · have h0 : ¬ n = 0 := by simpa using hb
        rw [if_neg h0] at mf
        have f1' := e5 a _ f1
        have f2' := e5 dp _ f2
        have f3' := e5 dm _ f3
        refine ⟨_, rfl, _, rfl, a, C, dx, _, _, rfl, f1', T.cl, T.nM, pl_mrk .., _, rfl, dm, _, rfl, DPut.k (k := Sum.inl (x : Int)) f3' kml, ?_⟩
        refine fin _ ((k4.trans (Kept.of_ex e5)).trans (Kept.dict f3')) (fun b hb2 => ?_) ?_
        · by_cases q : b = dm
          · subst q
            rw [upd_same] at hb2
            cases hb2
          · rw [upd_ne q] at hb2
            exact back4 b (fresh_back e5 hb2)
        · refine ⟨a, dx, dp, dm, kp, _, rfl, ?_, (upd_ne g5).trans f2', upd_same, g5, pfits_same g6 m3, mf, wf2⟩
          rw [m1, m2]
          exact (upd_ne n1).trans f1'
      · have h0 : n = 0 := by simpa using hb
        rw [if_pos h0] at mf
        refine fin F5 (k4.trans (Kept.of_ex e5)) (fun b hb2 => back4 b (fresh_back e5 hb2)) ⟨a, dx, dp, dm, kp, _, rfl, ?_, e5 dp _ f2, e5 dm _ f3, g5, pfits_same g6 m3, mf, wf2⟩
        rw [m1, m2]
        exact e5 a _ f1
    refine ⟨_, rfl, a, C, dx, _, _, rfl, g2, T.cl, T.nM, pl_mrk .., dm, rfl, .inl ⟨_, .inl g4⟩, _, rfl, _, Sum.inl (x : Int), g4, rfl, fun v hv => ?_, fun hv => ?_⟩
    · refine rest v _ (Kept.dict g4) (fun b hb => ?_) ((upd_ne n1).trans g2) ((upd_ne g5).trans g3) upd_same
      by_cases q : b = dm
      · subst q
        rw [upd_same] at hb
        cases hb
      · rw [upd_ne q] at hb
        exact hb
    · refine rest (.int 0) F3 (.of_ex (Ex.refl F3)) (fun b hb => hb) g2 g3 ?_
      rw [dropK_none hv]
      exact g4
end
end La
set_option Elab.async false
set_option linter.all false
set_option maxRecDepth 100000
set_option maxHeartbeats 4000000
namespace La
open PySem PySem.Spec PyProof.Rows L2 Evl
theorem sliceNV {l : List Nat} {i j : Nat} (hi : i ≤ j) (hj : j ≤ l.length) : cutV (l.map nv) (some (i : Int)) (some (j : Int)) = ((l.drop i).take (j - i)).map nv := by
  unfold cutV
  rw [HT.sIx_nat, HT.sIx_nat, List.length_map, Nat.min_eq_left (by omega), Nat.min_eq_left (by omega), List.map_take, List.map_drop]
theorem sliceFrom1 {n : Nat} {l : List Nat} : cutV ((n :: l).map nv) (some 1) none = l.map nv := by
  unfold cutV
  rw [HT.sIx_none, show (1 : Int) = ((1 : Nat) : Int) from rfl, HT.sIx_nat, List.length_map, List.length_cons, Nat.min_eq_left (by omega), List.map_cons, List.drop_succ_cons, List.drop_zero]
  exact List.take_of_length_le (by rw [List.length_map]; omega)
/-- the constants of hall.py -/
structure Tx2 (K : PySem.W.Frag) (mg : Str → Option Value) : Prop where
  kBegins : ∃ t, mg "BEGINS" = some (.int 0 t)
  kPillar : ∃ t, mg "PILLAR" = some (.int 1 t)
  kGone : ∃ t, mg "GONE" = some (.int 2 t)
  kMark : ∃ t, mg "MARK" = some (.int 3 t)
  kMany : ∃ t, mg "MANY" = some (.int 4 t)
  kShow : ∃ t, mg "SHOW" = some (.int 5 t)
  kSure : ∃ t, mg "SURE" = some (.int 6 t)
  kTry : ∃ t, mg "TRY_OUT" = some (.int 7 t)
  kFewest : ∃ t, mg "FEWEST" = some (.int 8 t)
  kLamps : ∃ t, mg "LAMPS" = some (.int 9 t)
  kLit : ∃ t, mg "LIT" = some (.int 10 t)
section
variable {σ : L2.St} {H F : Hp} {te : TE} {tz : TS} {D : Ends}
/-- if call == NAME: return e -/
theorem g_case {k i : Nat} (e : Ex H F) (hv : σ[1]? = some (some (nv k))) (h1 : k = i → ∀ F', Ext H F H F' → te σ F' D.rt) (h2 : k ≠ i → ∀ F', Ext H F H F' → tz D σ F') : tSeq (tIfS (tTest (tOp rEq (tVar 1) (tC (.int i)))) (tRet te) tNext) tz D σ F := by
  refine g_seqIf (H := H) (b := decide (k = i)) e (et_is (et_gv (gv_op (gv_var hv rfl) gv_c (rv_eq rfl))) (by rw [v_eq]; exact dec_iff (by omega))) (fun hb F' x => ?_) fun hb F' x => ?_
  · exact h1 (of_decide_eq_true hb) F' (Ext.same e x)
  · exact h2 (of_decide_eq_false hb) F' (Ext.same e x)
end
section
variable {P : Program} {w : World} {K : PySem.W.Frag} {mg : Str → Option Value} {base : Heap} {C : Addr}
/-! ### changing_answer -/
def spDo (C : Addr) (ok : Nat → Prop) : Sp := fun vs F Q _ => ∃ (self nb : Addr) (s : Hall) (c : Sy85.Call), vs = [.ref self, nv (noOf c), .ref nb] ∧ ok (noOf c) ∧ (numsOf c).length ≤ 1000 ∧ PlanP C s (.ref self) F ∧ F nb = some (.lst ((numsOf c).map nv)) ∧ Post C (Sy85.step s c).1 (ansOf s c) self F Q
theorem plan_at {s : Hall} {self : Addr} {F : Hp} (h : PlanP C s (.ref self) F) : ∃ dx dp dm, F self = some (.ins C dx (plF s.rows s.cols dp dm)) := by
  obtain ⟨a, dx, dp, dm, kp, km, h1, h2, _⟩ := h
  obtain rfl : self = a := by injection h1
  exact ⟨dx, dp, dm, h2⟩
theorem Post.ex {s' : Hall} {ans : List Int} {self : Addr} {F F1 : Hp} {Q : VK} (h : Post C s' ans self F Q) (e : Ex F F1) : Post C s' ans self F1 Q := h.back (.of_ex e) fun b hb => fresh_back e hb
abbrev nDo : List Str := ["hall", "call", "numbers"]
theorem scChange : FnScope nDo nDo (defScope (top 48)) := ⟨rfl, rfl, rfl, by decide +kernel, rfl, by decide +kernel, by decide +kernel⟩
theorem ok_change {f : Addr} {fd : FuncData} (Fn : Fun K "changing_answer" "changing_answer" (top 48) f fd) (T : Txt K mg C) (T2 : Tx2 K mg) (HB : HasM P w K mg base C "begins" 1 ["self", "many_rows", "many_columns"] (spBegins C)) (HP : HasM P w K mg base C "pillar" 2 ["self", "cell", "number"] (spPillar C))
    (HG : HasM P w K mg base C "gone" 2 ["self", "cell"] (spGone C)) (HM : HasM P w K mg base C "mark" 2 ["self", "cell", "how"] (spMark C)) : FnOk P w K mg base CX0 3 f fd nDo (spDo C fun n => n ≤ 3) := by
  refine Fn.ok scChange (fun vs H Q E h => ?_) (fun cdv A outer sh F vs Q E hr h => ?_)
  · obtain ⟨a, nb, s, c, rfl, _⟩ := h
    rfl
  · obtain ⟨a, nb, s, c, rfl, hc, hz, hp, hn, k⟩ := h
    refine ⟨_, pss_cons (ps_if (pt_cmpR op_eq (pv 1) (pe_const T2.kBegins) (nomark _)) (pss_one (ps_ret (pe_hasM (pv 0) T.cl HB (hr.mono (by decide)) (pa_cons (pe_ix ix_list (pv 2) pe_int (fun _ _ => rfl)) (pa_cons (pe_ix ix_list (pv 2) pe_int (fun _ _ => rfl)) pa_nil))))) pss_nil)
      (pss_cons (ps_if (pt_cmpR op_eq (pv 1) (pe_const T2.kPillar) (nomark _)) (pss_one (ps_ret (pe_hasM (pv 0) T.cl HP hr (pa_cons (pe_ix ix_list (pv 2) pe_int (fun _ _ => rfl)) (pa_cons (pe_ix ix_list (pv 2) pe_int (fun _ _ => rfl)) pa_nil))))) pss_nil)
      (pss_cons (ps_if (pt_cmpR op_eq (pv 1) (pe_const T2.kGone) (nomark _)) (pss_one (ps_ret (pe_hasM (pv 0) T.cl HG hr (pa_cons (pe_ix ix_list (pv 2) pe_int (fun _ _ => rfl)) pa_nil)))) pss_nil)
      (pss_one (ps_ret (pe_hasM (pv 0) T.cl HM hr (pa_cons (pe_ix ix_list (pv 2) pe_int (fun _ _ => rfl)) (pa_cons (pe_ix ix_list (pv 2) pe_int (fun _ _ => rfl)) pa_nil))))))), ?_⟩
    have e0 : Ex F F := Ex.refl F
    refine g_case (i := 0) e0 rfl (fun h F1 x1 => ?_) fun n1 F1 x1 => ?_
    · obtain ⟨r, cc, rfl⟩ : ∃ r cc, c = .begins r cc := by
        cases c <;> first | exact ⟨_, _, rfl⟩ | (exfalso; simp [noOf] at h)
      obtain ⟨dx, dp, dm, hs⟩ := plan_at (Stb.ex x1.f hp)
      exact ⟨_, rfl, a, dx, _, rfl, hs, pl_none (by unfold NoF; decide +kernel) .., _, rfl, nb, _, 0, _, rfl, rfl, sq_of (x1.f nb _ hn), atI_nat (xs := [nv r, nv cc]) (j := 0) rfl, _, rfl, nb, _, 1, _, rfl, rfl, sq_of (x1.f nb _ hn), atI_nat (xs := [nv r, nv cc]) (j := 1) rfl, a, s, r, cc, rfl, Stb.ex x1.f hp, k.ex x1.f⟩
    refine g_case (i := 1) (H := F) x1.s rfl (fun h F2 x2 => ?_) fun n2 F2 x2 => ?_
    · obtain ⟨r, cc, rfl⟩ : ∃ r cc, c = .pillar r cc := by
        cases c <;> first | exact ⟨_, _, rfl⟩ | (exfalso; simp [noOf] at h)
      have ex := x1.f.trans x2.f
      obtain ⟨dx, dp, dm, hs⟩ := plan_at (Stb.ex ex hp)
      exact ⟨_, rfl, a, dx, _, rfl, hs, pl_none (by unfold NoF; decide +kernel) .., _, rfl, nb, _, 0, _, rfl, rfl, sq_of (ex nb _ hn), atI_nat (xs := [nv r, nv cc]) (j := 0) rfl, _, rfl, nb, _, 1, _, rfl, rfl, sq_of (ex nb _ hn), atI_nat (xs := [nv r, nv cc]) (j := 1) rfl, a, s, r, cc, rfl, Stb.ex ex hp, k.ex ex⟩
    refine g_case (i := 2) (H := F) x2.s rfl (fun h F3 x3 => ?_) fun n3 F3 x3 => ?_
    · obtain ⟨r, rfl⟩ : ∃ r, c = .gone r := by
        cases c <;> first | exact ⟨_, rfl⟩ | (exfalso; simp [noOf] at h)
      have ex := (x1.f.trans x2.f).trans x3.f
      obtain ⟨dx, dp, dm, hs⟩ := plan_at (Stb.ex ex hp)
      exact ⟨_, rfl, a, dx, _, rfl, hs, pl_none (by unfold NoF; decide +kernel) .., _, rfl, nb, _, 0, _, rfl, rfl, sq_of (ex nb _ hn), atI_nat (xs := [nv r]) (j := 0) rfl, a, s, r, rfl, Stb.ex ex hp, k.ex ex⟩
    · obtain ⟨r, cc, rfl⟩ : ∃ r cc, c = .mark r cc := by
        cases c <;> first | exact ⟨_, _, rfl⟩ | exact absurd rfl n1 | exact absurd rfl n2 | exact absurd rfl n3 | (exfalso; simp [noOf] at hc)
      have ex := (x1.f.trans x2.f).trans x3.f
      obtain ⟨dx, dp, dm, hs⟩ := plan_at (Stb.ex ex hp)
      exact ⟨_, rfl, a, dx, _, rfl, hs, pl_none (by unfold NoF; decide +kernel) .., _, rfl, nb, _, 0, _, rfl, rfl, sq_of (ex nb _ hn), atI_nat (xs := [nv r, nv cc]) (j := 0) rfl, _, rfl, nb, _, 1, _, rfl, rfl, sq_of (ex nb _ hn), atI_nat (xs := [nv r, nv cc]) (j := 1) rfl, a, s, r, cc, rfl, Stb.ex ex hp, k.ex ex⟩
/-! ### asking_answer -/
theorem scAsk : FnScope nDo nDo (defScope (top 49)) := ⟨rfl, rfl, rfl, by decide +kernel, rfl, by decide +kernel, by decide +kernel⟩
theorem Post.got {s : Hall} {ans : List Int} {self : Addr} {Hs F F2 H' F' : Hp} {Q : VK} {v : V} (h : Post C s ans self F Q) (e : Ex F F2) (x : Ext Hs F2 H' F') (hp : PlanP C s (.ref self) Hs) (hs : ∀ a xs, Hs a = some (.lst xs) → F a = none) (hv : IL ans v H') : Q v F' := by
  obtain ⟨b, rfl, h2⟩ := hv
  refine h b F' ((Kept.of_ex e).trans (.of_ex x.f)) (Stb.ex (x.k.trans x.s) hp) ?_ (x.s b _ h2)
  rcases x.n b _ h2 with q | q
  · exact hs b _ q
  · exact fresh_back e q
theorem ok_ask {f : Addr} {fd : FuncData} (Fn : Fun K "asking_answer" "asking_answer" (top 49) f fd) (T : Txt K mg C) (T2 : Tx2 K mg) (H4 : HasM P w K mg base C "many" 6 ["self"] (spMany C)) (H5 : HasM P w K mg base C "show" 7 ["self", "k"] (spShow C)) (H6 : HasM P w K mg base C "sure" 7 ["self"] (spSure C))
    (H7 : HasM P w K mg base C "try_out" 6 ["self", "cells"] (spTry C)) (H8 : HasM P w K mg base C "fewest" 5 ["self"] (spFewest C)) (H9 : HasM P w K mg base C "lamps" 7 ["self"] (spLamps C)) (H10 : HasM P w K mg base C "lit" 4 ["self", "cells"] (spLit C)) (H11 : HasM P w K mg base C "state" 2 ["self"] (spState C)) :
    FnOk P w K mg base CX0 8 f fd nDo (spDo C fun n => 3 < n) := by
  refine Fn.ok scAsk (fun vs H Q E h => ?_) (fun cdv A outer sh F vs Q E hr h => ?_)
  · obtain ⟨a, nb, s, c, rfl, _⟩ := h
    rfl
  · obtain ⟨a, nb, s, c, rfl, hc, hz, hp, hn, k⟩ := h
    refine ⟨_, pss_cons (ps_if (pt_cmpR op_eq (pv 1) (pe_const T2.kMany) (nomark _)) (pss_one (ps_ret (pe_hasM0 (pv 0) T.cl H4 (hr.mono (by decide))))) pss_nil)
      (pss_cons (ps_if (pt_cmpR op_eq (pv 1) (pe_const T2.kShow) (nomark _)) (pss_one (ps_ret (pe_hasM (pv 0) T.cl H5 hr (pa_cons (pe_ix ix_list (pv 2) pe_int (fun _ _ => rfl)) pa_nil)))) pss_nil)
      (pss_cons (ps_if (pt_cmpR op_eq (pv 1) (pe_const T2.kSure) (nomark _)) (pss_one (ps_ret (pe_hasM0 (pv 0) T.cl H6 hr))) pss_nil)
      (pss_cons (ps_if (pt_cmpR op_eq (pv 1) (pe_const T2.kTry) (nomark _)) (pss_one (ps_ret (pe_hasM (pv 0) T.cl H7 (hr.mono (by decide)) (pa_cons (pe_slice sl_list (pv 2) (po_some pe_int) po_none) pa_nil)))) pss_nil)
      (pss_cons (ps_if (pt_cmpR op_eq (pv 1) (pe_const T2.kFewest) (nomark _)) (pss_one (ps_ret (pe_hasM0 (pv 0) T.cl H8 (hr.mono (by decide))))) pss_nil)
      (pss_cons (ps_if (pt_cmpR op_eq (pv 1) (pe_const T2.kLamps) (nomark _)) (pss_one (ps_ret (pe_hasM0 (pv 0) T.cl H9 hr))) pss_nil)
      (pss_cons (ps_if (pt_cmpR op_eq (pv 1) (pe_const T2.kLit) (nomark _)) (pss_one (ps_ret (pe_hasM (pv 0) T.cl H10 (hr.mono (by decide)) (pa_cons (pe_slice sl_list (pv 2) (po_some pe_int) po_none) pa_nil)))) pss_nil)
      (pss_one (ps_ret (pe_hasM0 (pv 0) T.cl H11 (hr.mono (by decide))))))))))), ?_⟩
    obtain ⟨Hs, eHs, hps, nls⟩ := small_of hp
    have nls' : ∀ a xs, Hs a = some (.lst xs) → F a = none := fun a xs h => absurd h (nls a xs)
    refine g_case (i := 4) (Ex.refl F) rfl (fun h F1 x1 => ?_) fun n1 F1 x1 => ?_
    · obtain rfl : c = .many := by
        cases c <;> first | rfl | (exfalso; simp [noOf] at h)
      obtain ⟨dx, dp, dm, hs⟩ := plan_at (Stb.ex x1.f hp)
      exact ⟨_, rfl, a, dx, _, rfl, hs, pl_none (by unfold NoF; decide +kernel) .., s, Hs, trivial, eHs.trans x1.f, ⟨hps, trivial⟩, fun v H' F' x p => k.got x1.f x hps nls' p⟩
    refine g_case (i := 5) (H := F) x1.s rfl (fun h F2 x2 => ?_) fun n2 F2 x2 => ?_
    · obtain ⟨r, rfl⟩ : ∃ r, c = .show_ r := by
        cases c <;> first | exact ⟨_, rfl⟩ | (exfalso; simp [noOf] at h)
      have ex := x1.f.trans x2.f
      obtain ⟨dx, dp, dm, hs⟩ := plan_at (Stb.ex ex hp)
      exact ⟨_, rfl, a, dx, _, rfl, hs, pl_none (by unfold NoF; decide +kernel) .., _, rfl, nb, _, 0, _, rfl, rfl, sq_of (ex nb _ hn), atI_nat (xs := [nv r]) (j := 0) rfl, (s, r), Hs, trivial, eHs.trans ex, ⟨hps, rfl, trivial⟩, fun v H' F' x p => k.got ex x hps nls' p⟩
    refine g_case (i := 6) (H := F) x2.s rfl (fun h F3 x3 => ?_) fun n3 F3 x3 => ?_
    · obtain rfl : c = .sure := by
        cases c <;> first | rfl | (exfalso; simp [noOf] at h)
      have ex := (x1.f.trans x2.f).trans x3.f
      obtain ⟨dx, dp, dm, hs⟩ := plan_at (Stb.ex ex hp)
      exact ⟨_, rfl, a, dx, _, rfl, hs, pl_none (by unfold NoF; decide +kernel) .., s, Hs, trivial, eHs.trans ex, ⟨hps, trivial⟩, fun v H' F' x p => k.got ex x hps nls' p⟩
    refine g_case (i := 7) (H := F) x3.s rfl (fun h F4 x4 => ?_) fun n4 F4 x4 => ?_
    · obtain ⟨l, rfl⟩ : ∃ l, c = .tryOut l := by
        cases c <;> first | exact ⟨_, rfl⟩ | (exfalso; simp [noOf] at h)
      have ex := ((x1.f.trans x2.f).trans x3.f).trans x4.f
      have hzl : l.length ≤ 1000 := by
        have : l.length + 1 ≤ 1000 := hz
        omega
      obtain ⟨dx, dp, dm, hs⟩ := plan_at (Stb.ex ex hp)
      refine ⟨_, rfl, a, dx, _, rfl, hs, pl_none (by unfold NoF; decide +kernel) .., _, rfl, 1, rfl, nb, _, rfl, sq_of (ex nb _ hn), fun q hq => ?_⟩
      have hqF : F q = none := fresh_back ex hq
      rw [show cutV ((numsOf (.tryOut l)).map nv) (some 1) none = l.map nv from sliceFrom1]
      refine ⟨(s, l), upd Hs q (.lst (l.map nv)), hzl, ?_, ⟨Stb.ex (Ex.new (fresh_back eHs hqF)) hps, ⟨q, rfl, upd_same⟩, trivial⟩, fun v H' F' x p => k.got (ex.trans (Ex.new hq)) x (Stb.ex (Ex.new (fresh_back eHs hqF)) hps) ?_ p⟩
      · exact (Ext.new (eHs.trans ex) hq (Ex.new hq) upd_same).s
      · intro b xs hb
        by_cases e : b = q
        · rw [e]
          exact hqF
        · rw [upd_ne e] at hb
          exact nls' b xs hb
    refine g_case (i := 8) (H := F) x4.s rfl (fun h F5 x5 => ?_) fun n5 F5 x5 => ?_
    · obtain rfl : c = .fewest := by
        cases c <;> first | rfl | (exfalso; simp [noOf] at h)
      have ex := (((x1.f.trans x2.f).trans x3.f).trans x4.f).trans x5.f
      obtain ⟨dx, dp, dm, hs⟩ := plan_at (Stb.ex ex hp)
      exact ⟨_, rfl, a, dx, _, rfl, hs, pl_none (by unfold NoF; decide +kernel) .., s, Hs, trivial, eHs.trans ex, ⟨hps, trivial⟩, fun v H' F' x p => k.got ex x hps nls' p⟩
    refine g_case (i := 9) (H := F) x5.s rfl (fun h F6 x6 => ?_) fun n6 F6 x6 => ?_
    · obtain rfl : c = .lamps := by
        cases c <;> first | rfl | (exfalso; simp [noOf] at h)
      have ex := ((((x1.f.trans x2.f).trans x3.f).trans x4.f).trans x5.f).trans x6.f
      obtain ⟨dx, dp, dm, hs⟩ := plan_at (Stb.ex ex hp)
      exact ⟨_, rfl, a, dx, _, rfl, hs, pl_none (by unfold NoF; decide +kernel) .., s, Hs, trivial, eHs.trans ex, ⟨hps, trivial⟩, fun v H' F' x p => k.got ex x hps nls' p⟩
    refine g_case (i := 10) (H := F) x6.s rfl (fun h F7 x7 => ?_) fun n7 F7 x7 => ?_
    · obtain ⟨l, rfl⟩ : ∃ l, c = .lit l := by
        cases c <;> first | exact ⟨_, rfl⟩ | (exfalso; simp [noOf] at h)
      have ex := (((((x1.f.trans x2.f).trans x3.f).trans x4.f).trans x5.f).trans x6.f).trans x7.f
      have hzl : l.length ≤ 1000 := by
        have : l.length + 1 ≤ 1000 := hz
        omega
      obtain ⟨dx, dp, dm, hs⟩ := plan_at (Stb.ex ex hp)
      refine ⟨_, rfl, a, dx, _, rfl, hs, pl_none (by unfold NoF; decide +kernel) .., _, rfl, 1, rfl, nb, _, rfl, sq_of (ex nb _ hn), fun q hq => ?_⟩
      have hqF : F q = none := fresh_back ex hq
      rw [show cutV ((numsOf (.lit l)).map nv) (some 1) none = l.map nv from sliceFrom1]
      refine ⟨(s, l), upd Hs q (.lst (l.map nv)), hzl, ?_, ⟨Stb.ex (Ex.new (fresh_back eHs hqF)) hps, ⟨q, rfl, upd_same⟩, trivial⟩, fun v H' F' x p => k.got (ex.trans (Ex.new hq)) x (Stb.ex (Ex.new (fresh_back eHs hqF)) hps) ?_ p⟩
      · exact (Ext.new (eHs.trans ex) hq (Ex.new hq) upd_same).s
      · intro b xs hb
        by_cases e : b = q
        · rw [e]
          exact hqF
        · rw [upd_ne e] at hb
          exact nls' b xs hb
    · obtain rfl : c = .state := by
        cases c <;> first | rfl | exact absurd rfl n1 | exact absurd rfl n2 | exact absurd rfl n3 | exact absurd rfl n4 | exact absurd rfl n5 | exact absurd rfl n6 | exact absurd rfl n7 | (exfalso; simp [noOf] at hc)
      have ex := (((((x1.f.trans x2.f).trans x3.f).trans x4.f).trans x5.f).trans x6.f).trans x7.f
      obtain ⟨dx, dp, dm, hs⟩ := plan_at (Stb.ex ex hp)
      exact ⟨_, rfl, a, dx, _, rfl, hs, pl_none (by unfold NoF; decide +kernel) .., s, Hs, trivial, eHs.trans ex, ⟨hps, trivial⟩, fun v H' F' x p => k.got ex x hps nls' p⟩
end
end La
set_option Elab.async false
set_option linter.all false
set_option maxRecDepth 100000
set_option maxHeartbeats 4000000
namespace La
open PySem PySem.Spec PyProof.Rows L2 Evl
abbrev behinds : List Nat := [2, 2, 1, 2, 0, 1, 0, 1, 0, 0, 1, 0]
def behind (c : Sy85.Call) : Nat := behinds.getD (noOf c) 0
theorem behind_at (c : Sy85.Call) : behinds[noOf c]? = some (behind c) := by cases c <;> rfl
theorem behind_len (c : Sy85.Call) : (flat1 c).length = 1 + behind c + (if noOf c ∈ [7, 10] then (numsOf c).headD 0 else 0) := by
  cases c with
  | tryOut l =>
    show l.length + 1 + 1 = 1 + 1 + (if (7 : Nat) ∈ [7, 10] then l.length else 0)
    rw [if_pos (by decide)]
    omega
  | lit l =>
    show l.length + 1 + 1 = 1 + 1 + (if (10 : Nat) ∈ [7, 10] then l.length else 0)
    rw [if_pos (by decide)]
    omega
  | _ => rfl
theorem behind_head (c : Sy85.Call) (h : noOf c ∈ [7, 10]) : (numsOf c)[0]? = some ((numsOf c).headD 0) := by
  cases c <;> first | rfl | (exfalso; simp [noOf] at h)
/-- the table of hall.py, and the class -/
structure Tx3 (K : PySem.W.Frag) (mg : Str → Option Value) (C : Addr) : Prop where
  tab : ∃ tb, mg "NUMBERS_BEHIND" = some (.ref tb) ∧ ∃ (o : Obj) (its : Array Value) (n : Nat), K.lookup tb = some o ∧ o.cls = .type "tuple" ∧ o.data = .seq its n ∧ its.size ≤ sizeLine ∧ Vals (behinds.map nv) its.toList
  gC : mg "Plan" = some (.ref C)
theorem kept_seq {K : PySem.W.Frag} {F F' : Hp} {a : Addr} {xs : List V} (k : Kept F F') (h : SqL K F a xs) : SqL K F' a xs := by
  rcases h with (h | ⟨o, h⟩) | h
  · exact .inl (.inl (k a _ h (fun _ _ _ z => by cases z) (fun _ z => by cases z)))
  · exact .inl (.inr ⟨o, k a _ h (fun _ _ _ z => by cases z) (fun _ z => by cases z)⟩)
  · exact .inr h
/-- the list that was handed in: it is not the one at p, or it is of the module -/
def Inp (K : PySem.W.Frag) (F : Hp) (a p : Addr) (xs : List V) : Prop := (Rd F a (.lst xs) ∧ a ≠ p) ∨
    (∃ m items cap, K.lookup a = some m ∧ m.cls = .type "list" ∧ m.dict = none ∧ m.data = .seq items cap ∧ items.size ≤ sizeLine ∧ Vals xs items.toList)
theorem Inp.seq {K : PySem.W.Frag} {F : Hp} {a p : Addr} {xs : List V} (h : Inp K F a p xs) : SqL K F a xs := by
  rcases h with h | h
  · exact .inl h.1
  · exact .inr h
theorem Inp.kept {K : PySem.W.Frag} {F F' : Hp} {a p : Addr} {xs : List V} (h : Inp K F a p xs) (k : Kept F F') : Inp K F' a p xs := by
  rcases h with ⟨h | ⟨o, h⟩, n⟩ | h
  · exact .inl ⟨.inl (k a _ h (fun _ _ _ z => by cases z) (fun _ z => by cases z)), n⟩
  · exact .inl ⟨.inr ⟨o, k a _ h (fun _ _ _ z => by cases z) (fun _ z => by cases z)⟩, n⟩
  · exact .inr h
theorem Inp.put {K : PySem.W.Frag} {F : Hp} {a p : Addr} {xs : List V} {o : HO} (h : Inp K F a p xs) : Inp K (upd F p o) a p xs := by
  rcases h with ⟨h | ⟨u, h⟩, n⟩ | h
  · exact .inl ⟨.inl ((upd_ne n).trans h), n⟩
  · exact .inl ⟨.inr ⟨u, (upd_ne n).trans h⟩, n⟩
  · exact .inr h
theorem plan_upd {C : Addr} {s : Hall} {v : V} {F : Hp} {p : Addr} {xs : List V} {o : HO} (h : PlanP C s v F) (hp : F p = some (.lst xs)) : PlanP C s v (upd F p o) := by
  obtain ⟨a, dx, dp, dm, kp, km, h1, h2, h3, h4, h5⟩ := h
  exact ⟨a, dx, dp, dm, kp, km, h1, (upd_ne (ne_of h2 hp (by intro z; cases z))).trans h2, (upd_ne (ne_of h3 hp (by intro z; cases z))).trans h3, (upd_ne (ne_of h4 hp (by intro z; cases z))).trans h4, h5⟩
theorem run_append (a b : List Sy85.Call) : ∀ s, run s (a ++ b) = run s a ++ run (after s a) b := by
  induction a with
  | nil => intro s; rfl
  | cons c a ih =>
    intro s
    show ansOf s c :: run (Sy85.step s c).1 (a ++ b) = ansOf s c :: run (Sy85.step s c).1 a ++ _
    rw [ih]
    rfl
theorem after_append (a b : List Sy85.Call) : ∀ s, after s (a ++ b) = after (after s a) b := by
  induction a with
  | nil => intro s; rfl
  | cons c a ih =>
    intro s
    exact ih _
theorem told_append (a b : List (List Int)) : PyFlat.told (a ++ b) = PyFlat.told a ++ PyFlat.told b := by
  unfold PyFlat.told
  rw [List.flatMap_append]
theorem q_asgIf {tt : TT} {ta tb : TE} {tz : TS} {D : Ends} {i : Nat} {σ : L2.St} {H : Hp} {b : Bool} (R : V → Hp → Prop) (h : EvT tt σ H b) (h1 : b = true → ∀ H1, Ex H H1 → ∀ Kx : VK, (∀ v H2, R v H2 → Kx v H2) → ta σ H1 Kx) (h2 : b = false → ∀ H1, Ex H H1 → ∀ Kx : VK, (∀ v H2, R v H2 → Kx v H2) → tb σ H1 Kx)
    (k : ∀ v H2, R v H2 → tz D (σ.set i (some v)) H2) : tSeq (tAsg (tIf tt ta tb) (gName i)) tz D σ H := h H (Ex.refl H) _ fun H1 e => by
  cases b with
  | true => exact h1 rfl H1 e _ k
  | false => exact h2 rfl H1 e _ k
theorem el_cut {te : TE} {σ : L2.St} {H : Hp} {xs ys : List V} (h : EvL te σ H xs) (e : xs = ys) : EvL te σ H ys := e ▸ h
section
variable {P : Program} {w : World} {K : PySem.W.Frag} {mg : Str → Option Value} {base : Heap} {C : Addr}
/-! ### end_of_call -/
def spEnd (K : PySem.W.Frag) : Sp := fun vs F Q _ => ∃ (a : Addr) (ls : List Nat) (pos : Nat) (c : Sy85.Call) (rest : List Nat), vs = [.ref a, nv pos] ∧ SqL K F a (ls.map nv) ∧ ls.drop pos = flat1 c ++ rest ∧ ∀ F', Ex F F' → Q (nv (pos + (flat1 c).length)) F'
abbrev nEnd : List Str := ["calls", "at", "call", "end"]
theorem scEnd : FnScope nEnd ["calls", "at"] (defScope (top 50)) := ⟨rfl, rfl, rfl, by decide +kernel, rfl, by decide +kernel, by decide +kernel⟩
theorem at_drop {ls : List Nat} {pos j x : Nat} {r : List Nat} (h : ls.drop pos = r) (hj : r[j]? = some x) : (ls.map nv)[pos + j]? = some (nv x) := by
  rw [List.getElem?_map, ← List.getElem?_drop, h, hj]
  rfl
theorem ok_end {f : Addr} {fd : FuncData} (Fn : Fun K "end_of_call" "end_of_call" (top 50) f fd) (T2 : Tx2 K mg) (T3 : Tx3 K mg C) : FnOk P w K mg base CX0 1 f fd ["calls", "at"] (spEnd K) := by
  refine Fn.ok scEnd (fun vs H Q E h => ?_) (fun cdv A outer sh F vs Q E hr h => ?_)
  · obtain ⟨a, ls, pos, c, rest, rfl, _⟩ := h
    rfl
  · obtain ⟨a, ls, pos, c, rest, rfl, hS, hd, k⟩ := h
    obtain ⟨tb, gT, o, its, nn, lT, q1, q2, q3, q4⟩ := T3.tab
    have hT : ∀ H : Hp, SqT K H tb (behinds.map nv) := fun H => .inr ⟨o, its, nn, lT, q1, q2, q3, q4⟩
    refine ⟨_, pss_cons (ps_set (i := 2) scEnd.nd rfl (Or.inl rfl) (pe_ix ix_list (pv 0) (pv 1) (fun _ _ => rfl)))
      (pss_cons (ps_set (i := 3) scEnd.nd rfl (Or.inl rfl) (pe_op op_add (pe_op op_add (pv 1) pe_int) (pe_ix ix_tup (pe_glob (v := .ref tb) (by rfl) gT rfl) (pv 2) (fun _ _ => rfl))))
      (pss_cons (ps_if (pt_cmpR op_in_seq (pv 2) (pe_tup (pa_cons (pe_const T2.kTry) (pa_cons (pe_const T2.kLit) pa_nil))) (by rfl))
          (pss_one (ps_aug (i := 3) scEnd.nd rfl (Or.inl rfl) (pe_ix ix_list (pv 0) (pe_op op_add (pv 1) pe_int) (fun _ _ => rfl)) ip_add)) pss_nil)
      (pss_one (ps_ret (pv 3))))), ?_⟩
    have i0 : (ls.map nv)[pos + 0]? = some (nv (noOf c)) := at_drop hd rfl
    refine q_asg (v := nv (noOf c)) (ev_op (ev_var rfl) (ev_var rfl) (rv_ixL hS (atI_nat i0))) fun F1 e1 => ?_
    have ib : (behinds.map nv)[noOf c]? = some (nv (behind c)) := by
      rw [List.getElem?_map, behind_at]
      rfl
    refine q_asg (v := nv (pos + 1 + behind c)) (ev_is (ev_op (ev_op (ev_var rfl) ev_c rv_I0) (ev_op ev_c (ev_var rfl) (rv_ixT (hT F1) (atI_nat ib))) rv_I0) ?_) fun F2 e2 => ?_
    · show V.int _ = V.int ((pos + 1 + behind c : Nat) : Int)
      rw [Int.natCast_add, Int.natCast_add]
      rfl
    have hl := behind_len c
    have tst : EvT (tTest (tOp (rIn K false) (tVar 2) (tTup (tCons (tC (.int 7)) (tCons (tC (.int 10)) tNil))))) [some (.ref a), some (nv pos), some (nv (noOf c)), some (nv (pos + 1 + behind c))] F2 (decide (noOf c ∈ [7, 10])) := by
      have := et_test (ev_inU (K := K) (σ := [some (.ref a), some (nv pos), some (nv (noOf c)), some (nv (pos + 1 + behind c))]) (H := F2) (ta := tVar 2) (x := nv (noOf c)) (xs := [7, 10].map nv) (ev_var rfl) (eu_tup (ea_cons ev_c (ea_cons ev_c ea_nil)) (by show 2 ≤ 100000; decide)) rfl (flat_nv [7, 10]))
      rw [inV_nv] at this
      exact this
    refine q_when tst (fun hb F3 e3 => ?_) (fun hb F3 e3 => ?_)
    · have hm := of_decide_eq_true hb
      rw [if_pos hm] at hl
      have i1 : (ls.map nv)[pos + 1]? = some (nv ((numsOf c).headD 0)) := at_drop hd (by
        show (noOf c :: (numsOf c ++ rest))[1]? = _
        rw [List.getElem?_cons_succ, List.getElem?_append_left (by have := (List.getElem?_eq_some_iff.mp (behind_head c hm)).1; omega)]
        exact behind_head c hm)
      have hS3 : SqL K F3 a (ls.map nv) := ex_l ((e1.trans e2).trans e3) hS
      refine s_aug (f := fun i j => i + j) (a := ((pos + 1 + behind c : Nat) : Int)) (b := (((numsOf c).headD 0 : Nat) : Int)) rfl (ev_op (ev_var rfl) (ev_is (ev_op (ev_var rfl) ev_c rv_I0) ?_) (rv_ixL hS3 (atI_nat i1))) fun F4 e4 => ?_
      · show V.int _ = V.int ((pos + 1 : Nat) : Int)
        rw [Int.natCast_add]
        rfl
      · refine ⟨_, rfl, ?_⟩
        have := k F4 (((e1.trans e2).trans e3).trans e4)
        rw [hl] at this
        have e9 : (((pos + 1 + behind c : Nat) : Int) + (((numsOf c).headD 0 : Nat) : Int)) = ((pos + (1 + behind c + (numsOf c).headD 0) : Nat) : Int) := by omega
        show Q (V.int (((pos + 1 + behind c : Nat) : Int) + (((numsOf c).headD 0 : Nat) : Int))) F4
        rw [e9]
        exact this
    · have hm := of_decide_eq_false hb
      rw [if_neg hm] at hl
      refine ⟨_, rfl, ?_⟩
      have := k F3 ((e1.trans e2).trans e3)
      rw [hl] at this
      have e9 : pos + 1 + behind c = pos + (1 + behind c + 0) := by omega
      rw [e9]
      exact this
/-! ### answers -/
def spAns (K : PySem.W.Frag) : Sp := fun vs F Q _ => ∃ (a : Addr) (ns : List Int), vs = [.ref a] ∧ SqL K F a (ns.map V.int) ∧ PySy85.answers_asked ns = true ∧ ns.length ≤ 6000 ∧
  ∀ (F' : Hp) (p : Addr), F' p = some (.lst ((PySy85.answers ns).map V.int)) → Q (.ref p) F'
abbrev nAns : List Str := ["calls", "hall", "told", "at", "call", "end", "numbers", "answer"]
theorem scAns : FnScope nAns ["calls"] (defScope (top 51)) := ⟨rfl, rfl, rfl, by decide +kernel, rfl, by decide +kernel, by decide +kernel⟩
theorem ok_answers {f fI : Addr} {fd fdI : FuncData} (Fn : Fun K "answers" "answers" (top 51) f fd) (T : Txt K mg C) (T2 : Tx2 K mg) (T3 : Tx3 K mg C) (M : Mk K C fI) (GI : FnOk P w K mg base CX0 1 fI fdI ["self"] (spInit C)) (bI : Binds K fdI ["self"] [])
    (HE : Has P w K mg base "end_of_call" 1 ["calls", "at"] (spEnd K)) (HC : Has P w K mg base "changing_answer" 3 nDo (spDo C fun n => n ≤ 3)) (HA : Has P w K mg base "asking_answer" 8 nDo (spDo C fun n => 3 < n)) : FnOk P w K mg base CX0 9 f fd ["calls"] (spAns K) := by
  refine Fn.ok scAns (fun vs H Q E h => ?_) (fun cdv A outer sh F vs Q E hr h => ?_)
  · obtain ⟨a, ns, rfl, _⟩ := h
    rfl
  · obtain ⟨a, ns, rfl, hS, hq, hz, k⟩ := h
    refine ⟨_, pss_cons (ps_set (i := 1) scAns.nd rfl (Or.inl rfl) (pe_make0 M GI (hr.mono (by decide)) rfl T3.gC bI .nil pass0))
      (pss_cons (ps_set (i := 2) scAns.nd rfl (Or.inl rfl) (pe_lst pa_nil))
      (pss_cons (ps_set (i := 3) scAns.nd rfl (Or.inl rfl) pe_int)
      (pss_cons (ps_while PassesOwn.never (pt_cmpR op_lt (pv 3) (pe_callB call_len_seq (by rfl) T.b.len boot_len (pa_cons (pv 0) pa_nil)) (nomark _))
        (pss_cons (ps_set (i := 4) scAns.nd rfl (Or.inl rfl) (pe_ix ix_list (pv 0) (pv 3) (fun _ _ => rfl)))
        (pss_cons (ps_set (i := 5) scAns.nd rfl (Or.inl rfl) (pe_has HE (hr.mono (by decide)) (by rfl) (pa_cons (pv 0) (pa_cons (pv 3) pa_nil))))
        (pss_cons (ps_set (i := 6) scAns.nd rfl (Or.inl rfl) (pe_slice sl_list (pv 0) (po_some (pe_op op_add (pv 3) pe_int)) (po_some (pv 5))))
        (pss_cons (ps_set (i := 7) scAns.nd rfl (Or.inl rfl) (pe_ifExp (pt_cmpR op_le (pv 4) (pe_const T2.kMark) (nomark _)) (pe_has HC (hr.mono (by decide)) (by rfl) (pa_cons (pv 1) (pa_cons (pv 4) (pa_cons (pv 6) pa_nil)))) (pe_has HA hr (by rfl) (pa_cons (pv 1) (pa_cons (pv 4) (pa_cons (pv 6) pa_nil))))))
        (pss_cons (ps_expr (pe_bm PySem.F.plainAttrs_list PySem.F.slot_list_append PySem.F.type_list_append mt_append (pv 2) (pa_cons (pe_callB call_len_seq (by rfl) T.b.len boot_len (pa_cons (pv 7) pa_nil)) pa_nil)))
        (pss_cons (ps_expr (pe_bm PySem.F.plainAttrs_list PySem.F.slot_list_extend PySem.F.type_list_extend mt_extend (pv 2) (pa_cons (pv 7) pa_nil)))
        (pss_one (ps_set (i := 3) scAns.nd rfl (Or.inl rfl) (pv 5))))))))))
      (pss_one (ps_ret (pv 2)))))), ?_⟩
    obtain ⟨cs, e1, e2, e3, e4⟩ := asked_calls hq
    obtain ⟨ls, hls⟩ : ∃ ls, ls = cs.flatMap flat1 := ⟨_, rfl⟩
    have hns : ns.map V.int = ls.map nv := by
      rw [e1, ← hls, toI, List.map_map]
      rfl
    rw [hns] at hS
    have hlen : ls.length ≤ 6000 := by
      have : ns.length = ls.length := by rw [e1, ← hls, toI, List.length_map]
      omega
    -- hall = Plan()
    intro x dx nx nd ne
    refine ⟨x, dx, rfl, upd_same, fun F1 hp1 kp1 => ⟨rfl, ?_⟩⟩
    have s1 : Same F F1 := Same.made nx nd kp1
    -- told = []; at = 0
    refine q_asgL (el_lst ea_nil (by show 0 ≤ 100000; decide)) fun p F2 hp2 ex2 hF2 => ?_
    refine q_asg ev_c fun F3 ex3 => ?_
    have sF3 : Same F F3 := fun b o h => ex3 b o (ex2 b o (s1 b o h))
    have inp : Inp K F3 a p (ls.map nv) := by
      rcases hS with (h | ⟨o, h⟩) | h
      · exact .inl ⟨.inl (sF3 a _ h), ne_of_none (s1 a _ h) hp2⟩
      · exact .inl ⟨.inr ⟨o, sF3 a _ h⟩, ne_of_none (s1 a _ h) hp2⟩
      · exact .inr h
    refine q_while (fun m σ' F' => ∃ (done todo : List Sy85.Call) (v4 v5 v6 v7 : Option V), cs = done ++ todo ∧ m = todo.length ∧ σ' = [some (.ref a), some (.ref x), some (.ref p), some (nv (done.flatMap flat1).length), v4, v5, v6, v7] ∧
        Inp K F' a p (ls.map nv) ∧ PlanP C (after Sy85.init done) (.ref x) F' ∧ F' p = some (.lst ((PyFlat.told (run Sy85.init done)).map V.int))) cs.length
      ⟨[], cs, none, none, none, none, rfl, rfl, rfl, inp, Stb.ex (ex2.trans ex3) hp1, ex3 p _ hF2⟩ ?_
    rintro m σ' F' ⟨done, todo, v4, v5, v6, v7, d1, d2, rfl, d4, d5, d6⟩
    have hpos : ls = done.flatMap flat1 ++ todo.flatMap flat1 := by rw [hls, d1, List.flatMap_append]
    refine ⟨decide ((done.flatMap flat1).length < ls.length), et_is (et_test (ev_op (ev_var rfl) (ev_len (ev_var rfl) d4.seq) rv_I0)) (dec_iff (by rw [List.length_map]; omega)), fun hb F4 ex4 => ?_, fun hb F4 ex4 => ?_⟩
    · -- a turn
      cases todo with
      | nil =>
        exfalso
        have := of_decide_eq_true hb
        rw [hpos] at this
        simp at this
      | cons c todo =>
        have cm : c ∈ cs := by rw [d1]; simp
        have hcl := e2 c cm
        have hdrop : ls.drop (done.flatMap flat1).length = flat1 c ++ todo.flatMap flat1 := by
          rw [hpos, List.drop_left, List.flatMap_cons]
        have i0 : (ls.map nv)[(done.flatMap flat1).length + 0]? = some (nv (noOf c)) := at_drop hdrop rfl
        refine ⟨fun σ' F' => ∃ v4 v5 v6 v7 : Option V, σ' = [some (.ref a), some (.ref x), some (.ref p), some (nv ((done ++ [c]).flatMap flat1).length), v4, v5, v6, v7] ∧
          Inp K F' a p (ls.map nv) ∧ PlanP C (after Sy85.init (done ++ [c])) (.ref x) F' ∧ F' p = some (.lst ((PyFlat.told (run Sy85.init (done ++ [c]))).map V.int)), fun σ2 F2' ⟨w4, w5, w6, w7, h1, h2, h3, h4⟩ => ⟨todo.length, by rw [d2]; simp, done ++ [c], todo, w4, w5, w6, w7, by rw [d1]; simp, rfl, h1, h2, h3, h4⟩, ?_⟩
        have d4' := d4.kept (Kept.of_ex ex4)
        refine q_asg (v := nv (noOf c)) (ev_op (ev_var rfl) (ev_var rfl) (rv_ixL d4'.seq (atI_nat i0))) fun F5 ex5 => ?_
        have d4'' := d4'.kept (Kept.of_ex ex5)
        have npos : ((done ++ [c]).flatMap flat1).length = (done.flatMap flat1).length + (flat1 c).length := by
          rw [List.flatMap_append, List.length_append]
          simp
        -- end = end_of_call(calls, at)
        refine ⟨_, rfl, _, rfl, a, ls, (done.flatMap flat1).length, c, todo.flatMap flat1, rfl, d4''.seq, hdrop, fun F6 ex6 => ?_⟩
        have d4c := d4''.kept (Kept.of_ex ex6)
        -- numbers = calls[at + 1:end]
        dsimp only
        have hlp : (done.flatMap flat1).length + (flat1 c).length ≤ ls.length := by
          rw [hpos, List.length_append, List.flatMap_cons, List.length_append]
          omega
        have hfl : (flat1 c).length = (numsOf c).length + 1 := rfl
        refine q_asgL (xs := (numsOf c).map nv) (el_cut (el_sl (ev_var rfl) (eo_some (ev_is (ev_op (ev_var rfl) ev_c rv_I0) (by show V.int _ = V.int (((done.flatMap flat1).length + 1 : Nat) : Int); rw [Int.natCast_add]; rfl))) (eo_some (ev_var rfl)) d4c.seq) ?_) fun nb F7 hnb ex7 hF7 => ?_
        · rw [sliceNV (by omega) hlp, ← List.drop_drop, hdrop]
          rw [show (done.flatMap flat1).length + (flat1 c).length - ((done.flatMap flat1).length + 1) = (numsOf c).length by omega]
          show ((numsOf c ++ todo.flatMap flat1).take (numsOf c).length).map nv = _
          rw [List.take_left']
          rfl
        have d4d := d4c.kept (Kept.of_ex ex7)
        have pl7 : PlanP C (after Sy85.init done) (.ref x) F7 := Stb.ex ((((ex4.trans ex5).trans ex6).trans ex7)) d5
        have p7 : F7 p = some (.lst ((PyFlat.told (run Sy85.init done)).map V.int)) := (((ex4.trans ex5).trans ex6).trans ex7) p _ d6
        -- answer = ..
        refine q_asgIf (b := decide (noOf c ≤ 3)) (R := fun v H => ∃ b, v = .ref b ∧ Kept F7 H ∧ PlanP C (after Sy85.init (done ++ [c])) (.ref x) H ∧ F7 b = none ∧ H b = some (.lst ((ansOf (after Sy85.init done) c).map V.int)))
          (et_is (et_test (ev_op (ev_var rfl) ev_c rv_I0)) (dec_iff (by omega))) (fun hb8 F8 ex8 Kx hK => ?_) (fun hb8 F8 ex8 Kx hK => ?_) ?_
        · have hok := of_decide_eq_true hb8
          refine ⟨_, rfl, _, rfl, _, rfl, x, nb, after Sy85.init done, c, rfl, hok, by omega, Stb.ex ex8 pl7, ex8 nb _ hF7, fun b F9 k9 pl9 hb9 hF9 => ?_⟩
          exact hK _ _ ⟨b, rfl, (Kept.of_ex ex8).trans k9, by rw [after_append]; exact pl9, fresh_back ex8 hb9, hF9⟩
        · have hok := of_decide_eq_false hb8
          refine ⟨_, rfl, _, rfl, _, rfl, x, nb, after Sy85.init done, c, rfl, by show 3 < noOf c; omega, by omega, Stb.ex ex8 pl7, ex8 nb _ hF7, fun b F9 k9 pl9 hb9 hF9 => ?_⟩
          exact hK _ _ ⟨b, rfl, (Kept.of_ex ex8).trans k9, by rw [after_append]; exact pl9, fresh_back ex8 hb9, hF9⟩
        rintro v F9 ⟨b, rfl, k9, pl9, hb9, hF9⟩
        have d4e := d4d.kept k9
        have p9 : F9 p = some (.lst ((PyFlat.told (run Sy85.init done)).map V.int)) := k9 p _ p7 (fun _ _ _ z => by cases z) (fun _ z => by cases z)
        have hbp : b ≠ p := fun z => by
          rw [z, p7] at hb9
          cases hb9
        -- the size of what is told
        have htold : PyFlat.told (run Sy85.init (done ++ [c])) = PyFlat.told (run Sy85.init done) ++ (((ansOf (after Sy85.init done) c).length : Int) :: ansOf (after Sy85.init done) c) := by
          rw [run_append, told_append]
          show _ ++ (PyFlat.told [ansOf (after Sy85.init done) c]) = _
          unfold PyFlat.told
          simp
        have hpre : (PyFlat.told (run Sy85.init done)).length + (1 + (ansOf (after Sy85.init done) c).length) ≤ 10000000 := by
          have q1 : PyFlat.told (run Sy85.init cs) = PyFlat.told (run Sy85.init (done ++ [c])) ++ PyFlat.told (run (after Sy85.init (done ++ [c])) todo) := by
            rw [d1, ← told_append, ← run_append, List.append_assoc]
            rfl
          have q2 := e4
          rw [e3, q1, htold] at q2
          simp only [List.length_append, List.length_cons] at q2
          omega
        have hsz : (PyFlat.told (run Sy85.init done)).length + 1 + (ansOf (after Sy85.init done) c).length ≤ 16777216 := by omega
        -- told.append(len(answer))
        refine ⟨.ref p, rfl, .inl ⟨rfl, _, sq_of p9⟩, _, rfl, b, _, rfl, .inl (sq_of hF9), p, _, _, rfl, rfl, p9, by rw [List.length_map]; show _ < 16777216; omega, ?_⟩
        dsimp only
        -- told.extend(answer)
        refine ⟨.ref p, rfl, .inl ⟨rfl, _, sq_of upd_same⟩, _, rfl, p, b, _, _, rfl, rfl, upd_same, (upd_ne hbp).trans hF9, by rw [List.length_append, List.length_map, List.length_map, List.length_singleton]; exact hsz, ?_⟩
        dsimp only
        -- at = end
        refine ⟨_, rfl, _, _, _, _, by rw [npos]; rfl, (d4e.put).put, plan_upd (plan_upd pl9 p9) upd_same, ?_⟩
        rw [upd_same, htold, List.map_append, List.map_cons, List.length_map, List.append_assoc]
        rfl
    · -- behind the loop
      have ht : todo = [] := by
        cases todo with
        | nil => rfl
        | cons c todo =>
          exfalso
          have := of_decide_eq_false hb
          apply this
          rw [hpos, List.length_append, List.flatMap_cons, List.length_append]
          show _ < _ + ((numsOf c).length + 1 + _)
          omega
      subst ht
      rw [List.append_nil] at d1
      subst d1
      refine ⟨_, rfl, k F4 p ?_⟩
      rw [e3]
      exact ex4 p _ d6
end
end La
set_option Elab.async false
set_option linter.all false
set_option maxRecDepth 100000
set_option maxHeartbeats 8000000
namespace La
open PySem PySem.Spec PyProof.Rows L2
/-- what the top has written: a def | a method | a number | nothing -/
def TopDef (K : PySem.W.Frag) (x : Str) (i : Nat) (f : Addr) : Prop := PySem.W.nsIn K mainGlobals x = some (some (.ref f)) ∧ ∃ (oc : Value) (od : Option Addr) (kV dc pm : Value) (an : Option Addr) (cd ct : Value) (sl : Array (Option Value)),
  K.lookup f = some ⟨oc, od, .func (PySem.W.fnOf x x (defArgs (top i)) (defBody (top i)) (defScope (top i)) .none kV dc pm an cd ct), sl⟩ ∧ PySem.W.codeIn K cd x = true ∧ PySem.W.keepIn K (.ref f) = true
def PlanDef (K : PySem.W.Frag) (C : Addr) (x q : Str) (i : Nat) (f : Addr) : Prop := (PySem.W.findIn K (.ref C) x = some (some (.ref f)) ∧ PySem.W.isFn K (.ref f) = true) ∧ ∃ (oc : Value) (od : Option Addr) (kV dc pm : Value) (an : Option Addr) (cd ct : Value) (sl : Array (Option Value)),
  K.lookup f = some ⟨oc, od, .func (PySem.W.fnOf x q (defArgs (inPlan i)) (defBody (inPlan i)) (defScope (inPlan i)) .none kV dc pm an cd ct), sl⟩ ∧ PySem.W.codeIn K cd q = true ∧ PySem.W.keepIn K (.ref f) = true
def TopInt (K : PySem.W.Frag) (x : Str) (i : Int) : Prop := ∃ t, PySem.W.nsIn K mainGlobals x = some (some (.int i t))
def TopNo (K : PySem.W.Frag) (x : Str) : Prop := PySem.W.nsIn K mainGlobals x = some none
theorem topDef_mk {K : PySem.W.Frag} {x : Str} {i : Nat} {f : Addr} {oc : Value} {od : Option Addr} {kV dc pm : Value} {an : Option Addr} {cd ct : Value} {sl : Array (Option Value)} (a : PySem.W.nsIn K mainGlobals x = some (some (.ref f)))
    (l : K.lookup f = some ⟨oc, od, .func (PySem.W.fnOf x x (defArgs (top i)) (defBody (top i)) (defScope (top i)) .none kV dc pm an cd ct), sl⟩) (c : PySem.W.codeIn K cd x = true) (k : PySem.W.keepIn K (.ref f) = true) : TopDef K x i f := ⟨a, oc, od, kV, dc, pm, an, cd, ct, sl, l, c, k⟩
theorem planDef_mk {K : PySem.W.Frag} {C : Addr} {x q : Str} {i : Nat} {f : Addr} {oc : Value} {od : Option Addr} {kV dc pm : Value} {an : Option Addr} {cd ct : Value} {sl : Array (Option Value)} (a : PySem.W.findIn K (.ref C) x = some (some (.ref f))) (j : PySem.W.isFn K (.ref f) = true)
    (l : K.lookup f = some ⟨oc, od, .func (PySem.W.fnOf x q (defArgs (inPlan i)) (defBody (inPlan i)) (defScope (inPlan i)) .none kV dc pm an cd ct), sl⟩) (c : PySem.W.codeIn K cd q = true) (k : PySem.W.keepIn K (.ref f) = true) : PlanDef K C x q i f := ⟨⟨a, j⟩, oc, od, kV, dc, pm, an, cd, ct, sl, l, c, k⟩
theorem topInt_mk {K : PySem.W.Frag} {x : Str} {i : Int} {t : Addr} (a : PySem.W.nsIn K mainGlobals x = some (some (.int i t))) : TopInt K x i := ⟨t, a⟩
section
variable {P : Program} {w : World} {K : PySem.W.Frag} {h : Heap} {mg : Str → Option Value} {C : Addr} {base : Heap} {x q : Str} {i k : Nat} {f : Addr} {ps : List Str} {sp : Sp}
theorem int_top (X : K.In h) (G : h.Ns mainGlobals mg) {n : Int} (a : TopInt K x n) : ∃ t, mg x = some (.int n t) := by
  obtain ⟨t, e⟩ := a
  exact ⟨t, PySem.W.mg_of X G e⟩
theorem has_top (X : K.In h) (G : h.Ns mainGlobals mg) (a : TopDef K x i f)
    (hb : ∀ (kV doc pm : Value) (an : Option Addr) (cdv ct : Value) (us : List Value), us.length = ps.length → bindArgs (PySem.W.fnOf x x (defArgs (top i)) (defBody (top i)) (defScope (top i)) .none kV doc pm an cdv ct) ⟨us, []⟩ = pure (ps.zip us))
    (ho : ∀ {f : Addr} {fd : FuncData}, Fun K x x (top i) f fd → FnOk P w K mg base CX0 k f fd ps sp) : Has P w K mg base x k ps sp := by
  obtain ⟨e, oc, od, kV, dc, pm, an, cd, ct, sl, l, c, kp⟩ := a
  have F := fun_mk l c kp
  exact ⟨f, _, PySem.W.mg_of X G e, kp, F.binds hb, ho F⟩
theorem has_plan (a : PlanDef K C x q i f)
    (hb : ∀ (kV doc pm : Value) (an : Option Addr) (cdv ct : Value) (us : List Value), us.length = ps.length → bindArgs (PySem.W.fnOf x q (defArgs (inPlan i)) (defBody (inPlan i)) (defScope (inPlan i)) .none kV doc pm an cdv ct) ⟨us, []⟩ = pure (ps.zip us))
    (ho : ∀ {f : Addr} {fd : FuncData}, Fun K x q (inPlan i) f fd → FnOk P w K mg base CX0 k f fd ps sp) : HasM P w K mg base C x k ps sp := by
  obtain ⟨⟨e, j⟩, oc, od, kV, dc, pm, an, cd, ct, sl, l, c, kp⟩ := a
  have F := fun_mk l c kp
  exact ⟨f, _, ⟨e, j, kp⟩, F.binds hb, ho F⟩
end
theorem all_mk {P : Program} {w : World} {K : PySem.W.Frag} {h : Heap} {mg : Str → Option Value} {fa C tb : Addr} (X : K.In h) (G : h.Ns mainGlobals mg) (hfa : mg "answers" = some (.ref fa))
    {f_meets_all f_with_one_more f_fewest_that_meet f_lines_from f_beside f_lit_from f_lit_by f_is_lit_by_another f_bits_of f_with_and_without f_all_settings f_with_lists f_in_all f_in_none f_changing_answer f_asking_answer f_end_of_call f_answers g_has_cell g_free_cells g_all_free g_numbered g_marked g_settings g_lamps_beside g_numbers_missed g_ways_among g_keeps_marks g_open_among g_open_ways g_first_wrong g_many g_show g_sure g_try_out g_lit g_lamps g_fewest g_state g_begins g_pillar g_gone g_mark g_init : Addr}
    (aC : PySem.W.nsIn K mainGlobals "Plan" = some (some (.ref C)))
    (d_meets_all : TopDef K "meets_all" 1 f_meets_all)
    (d_with_one_more : TopDef K "with_one_more" 2 f_with_one_more)
    (d_fewest_that_meet : TopDef K "fewest_that_meet" 3 f_fewest_that_meet)
    (d_lines_from : TopDef K "lines_from" 5 f_lines_from)
    (d_beside : TopDef K "beside" 6 f_beside)
    (d_lit_from : TopDef K "lit_from" 7 f_lit_from)
    (d_lit_by : TopDef K "lit_by" 8 f_lit_by)
    (d_is_lit_by_another : TopDef K "is_lit_by_another" 9 f_is_lit_by_another)
    (d_bits_of : TopDef K "bits_of" 10 f_bits_of)
    (d_with_and_without : TopDef K "with_and_without" 11 f_with_and_without)
    (d_all_settings : TopDef K "all_settings" 12 f_all_settings)
    (d_with_lists : TopDef K "with_lists" 31 f_with_lists)
    (d_in_all : TopDef K "in_all" 32 f_in_all)
    (d_in_none : TopDef K "in_none" 33 f_in_none)
    (d_changing_answer : TopDef K "changing_answer" 48 f_changing_answer)
    (d_asking_answer : TopDef K "asking_answer" 49 f_asking_answer)
    (d_end_of_call : TopDef K "end_of_call" 50 f_end_of_call)
    (d_answers : TopDef K "answers" 51 f_answers)
    (e_has_cell : PlanDef K C "has_cell" "Plan.has_cell" 13 g_has_cell)
    (e_free_cells : PlanDef K C "free_cells" "Plan.free_cells" 14 g_free_cells)
    (e_all_free : PlanDef K C "all_free" "Plan.all_free" 15 g_all_free)
    (e_numbered : PlanDef K C "numbered" "Plan.numbered" 16 g_numbered)
    (e_marked : PlanDef K C "marked" "Plan.marked" 17 g_marked)
    (e_settings : PlanDef K C "settings" "Plan.settings" 18 g_settings)
    (e_lamps_beside : PlanDef K C "lamps_beside" "Plan.lamps_beside" 23 g_lamps_beside)
    (e_numbers_missed : PlanDef K C "numbers_missed" "Plan.numbers_missed" 22 g_numbers_missed)
    (e_ways_among : PlanDef K C "ways_among" "Plan.ways_among" 19 g_ways_among)
    (e_keeps_marks : PlanDef K C "keeps_marks" "Plan.keeps_marks" 24 g_keeps_marks)
    (e_open_among : PlanDef K C "open_among" "Plan.open_among" 20 g_open_among)
    (e_open_ways : PlanDef K C "open_ways" "Plan.open_ways" 21 g_open_ways)
    (e_first_wrong : PlanDef K C "first_wrong" "Plan.first_wrong" 25 g_first_wrong)
    (e_many : PlanDef K C "many" "Plan.many" 5 g_many)
    (e_show : PlanDef K C "show" "Plan.show" 6 g_show)
    (e_sure : PlanDef K C "sure" "Plan.sure" 7 g_sure)
    (e_try_out : PlanDef K C "try_out" "Plan.try_out" 8 g_try_out)
    (e_lit : PlanDef K C "lit" "Plan.lit" 11 g_lit)
    (e_lamps : PlanDef K C "lamps" "Plan.lamps" 10 g_lamps)
    (e_fewest : PlanDef K C "fewest" "Plan.fewest" 9 g_fewest)
    (e_state : PlanDef K C "state" "Plan.state" 12 g_state)
    (e_begins : PlanDef K C "begins" "Plan.begins" 1 g_begins)
    (e_pillar : PlanDef K C "pillar" "Plan.pillar" 2 g_pillar)
    (e_gone : PlanDef K C "gone" "Plan.gone" 3 g_gone)
    (e_mark : PlanDef K C "mark" "Plan.mark" 4 g_mark)
    (e_init : PlanDef K C "__init__" "Plan.__init__" 0 g_init)
    (pg : PySem.W.plainGet K C Str.empty = true) (hd : PySem.W.hasDictIn K C = true) (po : PySem.W.plainOver K C = true) (sa : PySem.W.findIn K (.ref C) "__setattr__" = some (some (.builtin "object.__setattr__"))) (mk : PySem.W.makesIn K C = true) (kc : PySem.W.keepIn K (.ref C) = true)
    (nR : PySem.W.findIn K (.ref C) "rows" = some none) (nC : PySem.W.findIn K (.ref C) "columns" = some none) (nP : PySem.W.findIn K (.ref C) "pillars" = some none) (nM : PySem.W.findIn K (.ref C) "marks" = some none)
    (z_len : TopNo K "len")
    (z_any : TopNo K "any")
    (z_all : TopNo K "all")
    (z_sum : TopNo K "sum")
    (z_min : TopNo K "min")
    (z_set : TopNo K "set")
    (z_sorted : TopNo K "sorted")
    (z_range : TopNo K "range")
    (z_divmod : TopNo K "divmod")
    (cRows : TopInt K "MOST_ROWS" 4)
    (cCols : TopInt K "MOST_COLUMNS" 4)
    (cBeside : TopInt K "MOST_BESIDE" 4)
    (cNoNum : TopInt K "NO_NUMBER" 9)
    (cNot : TopInt K "NOT_MARKED" 0)
    (cWith : TopInt K "WITH_LAMP" 1)
    (cWithout : TopInt K "WITHOUT_LAMP" 2)
    (cWrong : TopInt K "WRONG_NUMBER" (-1))
    (cTwice : TopInt K "TOLD_TWICE" (-1))
    (cNoSuch : TopInt K "NO_SUCH" (-2))
    (cCell : TopInt K "WRONG_CELL" (-4))
    (cWays : TopInt K "NOT_THAT_MANY_WAYS" (-6))
    (cIs : TopInt K "IS_A_WAY" 0)
    (cNotOn : TopInt K "NOT_ON_A_FREE_CELL" 1)
    (cLit : TopInt K "LIT_BY_ANOTHER" 2)
    (cDark : TopInt K "LEFT_DARK" 3)
    (cMissed : TopInt K "NUMBER_MISSED" 4)
    (kBegins : TopInt K "BEGINS" 0)
    (kPillar : TopInt K "PILLAR" 1)
    (kGone : TopInt K "GONE" 2)
    (kMark : TopInt K "MARK" 3)
    (kMany : TopInt K "MANY" 4)
    (kShow : TopInt K "SHOW" 5)
    (kSure : TopInt K "SURE" 6)
    (kTry : TopInt K "TRY_OUT" 7)
    (kFewest : TopInt K "FEWEST" 8)
    (kLamps : TopInt K "LAMPS" 9)
    (kLit : TopInt K "LIT" 10)
    {itT : Array Value} {nT : Nat} {odT : Option Addr} {slT : Array (Option Value)} (aT : PySem.W.nsIn K mainGlobals "NUMBERS_BEHIND" = some (some (.ref tb))) (lT : K.lookup tb = some ⟨.type "tuple", odT, .seq itT nT, slT⟩) (vT : itT.size ≤ sizeLine ∧ Vals (behinds.map nv) itT.toList) :
    ∃ fd : FuncData, (∀ (s : Shared) (us : List Value), us.length = (["calls"] : List Str).length → BindsTo s fd ⟨us, []⟩ ((["calls"] : List Str).zip us)) ∧ ∀ base : Heap, K.In base → base.Ns mainGlobals mg → FnOk P w K mg base CX0 9 fa fd ["calls"] (spAns K) := by
  have B : Blt mg := ⟨PySem.W.mg_none_of X G z_len, PySem.W.mg_none_of X G z_any, PySem.W.mg_none_of X G z_all, PySem.W.mg_none_of X G z_sum, PySem.W.mg_none_of X G z_min, PySem.W.mg_none_of X G z_set, PySem.W.mg_none_of X G z_sorted, PySem.W.mg_none_of X G z_range, PySem.W.mg_none_of X G z_divmod⟩
  have T : Txt K mg C := ⟨⟨pg, hd, po, sa⟩, nR, nC, nP, nM, B, int_top X G cRows, int_top X G cCols, int_top X G cBeside, int_top X G cNoNum, int_top X G cNot, int_top X G cWith, int_top X G cWithout, int_top X G cWrong, int_top X G cTwice, int_top X G cNoSuch, int_top X G cCell, int_top X G cWays, int_top X G cIs, int_top X G cNotOn, int_top X G cLit, int_top X G cDark, int_top X G cMissed⟩
  have T2 : Tx2 K mg := ⟨int_top X G kBegins, int_top X G kPillar, int_top X G kGone, int_top X G kMark, int_top X G kMany, int_top X G kShow, int_top X G kSure, int_top X G kTry, int_top X G kFewest, int_top X G kLamps, int_top X G kLit⟩
  have T3 : Tx3 K mg C := ⟨⟨tb, PySem.W.mg_of X G aT, _, itT, nT, lT, rfl, rfl, vT.1, vT.2⟩, PySem.W.mg_of X G aC⟩
  obtain ⟨aA, oc, od, kV, dc, pm, an, cd, ct, sl, lA, cA, kA⟩ := d_answers
  have e := hfa.symm.trans (PySem.W.mg_of X G aA)
  cases e
  have FA := fun_mk lA cA kA
  obtain ⟨⟨aI, iI⟩, oc2, od2, kV2, dc2, pm2, an2, cd2, ct2, sl2, lI, cI, kI⟩ := e_init
  have FI := fun_mk lI cI kI
  have bI := FI.binds (ps := ["self"]) fun _ _ _ _ _ _ us hl => match us, hl with | [_], _ => rfl
  refine ⟨PySem.W.fnOf "answers" "answers" (defArgs (top 51)) (defBody (top 51)) (defScope (top 51)) .none kV dc pm an cd ct, fun s us hu => match us, hu with | [_], _ => .of_eq rfl, fun base _ _ => ?_⟩
  have H_meets_all := has_top (P := P) (w := w) (base := base) X G d_meets_all (fun _ _ _ _ _ _ us hl => match us, hl with | [_, _], _ => rfl) (fun F => ok_meets F B)
  have H_with_one_more := has_top (P := P) (w := w) (base := base) X G d_with_one_more (fun _ _ _ _ _ _ us hl => match us, hl with | [_, _], _ => rfl) (fun F => ok_more F B)
  have H_fewest_that_meet := has_top (P := P) (w := w) (base := base) X G d_fewest_that_meet (fun _ _ _ _ _ _ us hl => match us, hl with | [_, _], _ => rfl) (fun F => ok_few F B H_meets_all H_with_one_more)
  have H_lines_from := has_top (P := P) (w := w) (base := base) X G d_lines_from (fun _ _ _ _ _ _ us hl => match us, hl with | [_, _, _], _ => rfl) (fun F => ok_lines F B)
  have H_beside := has_top (P := P) (w := w) (base := base) X G d_beside (fun _ _ _ _ _ _ us hl => match us, hl with | [_, _, _], _ => rfl) (fun F => ok_beside F B H_lines_from)
  have H_lit_from := has_top (P := P) (w := w) (base := base) X G d_lit_from (fun _ _ _ _ _ _ us hl => match us, hl with | [_, _, _, _], _ => rfl) (fun F => ok_lit_from F B H_lines_from)
  have H_lit_by := has_top (P := P) (w := w) (base := base) X G d_lit_by (fun _ _ _ _ _ _ us hl => match us, hl with | [_, _, _, _], _ => rfl) (fun F => ok_litBy F B H_lit_from)
  have H_is_lit_by_another := has_top (P := P) (w := w) (base := base) X G d_is_lit_by_another (fun _ _ _ _ _ _ us hl => match us, hl with | [_, _, _, _], _ => rfl) (fun F => ok_isLit F B H_lit_from)
  have H_bits_of := has_top (P := P) (w := w) (base := base) X G d_bits_of (fun _ _ _ _ _ _ us hl => match us, hl with | [_], _ => rfl) (fun F => ok_bits F B)
  have H_with_and_without := has_top (P := P) (w := w) (base := base) X G d_with_and_without (fun _ _ _ _ _ _ us hl => match us, hl with | [_, _, _], _ => rfl) (fun F => ok_with F B)
  have H_all_settings := has_top (P := P) (w := w) (base := base) X G d_all_settings (fun _ _ _ _ _ _ us hl => match us, hl with | [_, _, _], _ => rfl) (fun F => ok_all F B H_lit_from H_bits_of H_with_and_without)
  have H_with_lists := has_top (P := P) (w := w) (base := base) X G d_with_lists (fun _ _ _ _ _ _ us hl => match us, hl with | [_, _], _ => rfl) (fun F => ok_lists F B)
  have H_in_all := has_top (P := P) (w := w) (base := base) X G d_in_all (fun _ _ _ _ _ _ us hl => match us, hl with | [_, _], _ => rfl) (fun F => ok_in_all F B)
  have H_in_none := has_top (P := P) (w := w) (base := base) X G d_in_none (fun _ _ _ _ _ _ us hl => match us, hl with | [_, _], _ => rfl) (fun F => ok_in_none F B)
  have M_has_cell := has_plan (P := P) (w := w) (mg := mg) (base := base) e_has_cell (fun _ _ _ _ _ _ us hl => match us, hl with | [_, _], _ => rfl) (fun F => ok_has_cell F T)
  have M_free_cells := has_plan (P := P) (w := w) (mg := mg) (base := base) e_free_cells (fun _ _ _ _ _ _ us hl => match us, hl with | [_], _ => rfl) (fun F => ok_free F T)
  have M_all_free := has_plan (P := P) (w := w) (mg := mg) (base := base) e_all_free (fun _ _ _ _ _ _ us hl => match us, hl with | [_, _], _ => rfl) (fun F => ok_all_free F T M_has_cell)
  have M_numbered := has_plan (P := P) (w := w) (mg := mg) (base := base) e_numbered (fun _ _ _ _ _ _ us hl => match us, hl with | [_], _ => rfl) (fun F => ok_numbered F T)
  have M_marked := has_plan (P := P) (w := w) (mg := mg) (base := base) e_marked (fun _ _ _ _ _ _ us hl => match us, hl with | [_, _], _ => rfl) (fun F => ok_marked F T)
  have M_settings := has_plan (P := P) (w := w) (mg := mg) (base := base) e_settings (fun _ _ _ _ _ _ us hl => match us, hl with | [_], _ => rfl) (fun F => ok_settings F T H_all_settings)
  have M_lamps_beside := has_plan (P := P) (w := w) (mg := mg) (base := base) e_lamps_beside (fun _ _ _ _ _ _ us hl => match us, hl with | [_, _, _], _ => rfl) (fun F => ok_lampsBeside F T H_beside)
  have M_numbers_missed := has_plan (P := P) (w := w) (mg := mg) (base := base) e_numbers_missed (fun _ _ _ _ _ _ us hl => match us, hl with | [_, _], _ => rfl) (fun F => ok_missed F T M_numbered M_lamps_beside)
  have M_ways_among := has_plan (P := P) (w := w) (mg := mg) (base := base) e_ways_among (fun _ _ _ _ _ _ us hl => match us, hl with | [_, _], _ => rfl) (fun F => ok_ways F T M_numbers_missed)
  have M_keeps_marks := has_plan (P := P) (w := w) (mg := mg) (base := base) e_keeps_marks (fun _ _ _ _ _ _ us hl => match us, hl with | [_, _], _ => rfl) (fun F => ok_keeps F T)
  have M_open_among := has_plan (P := P) (w := w) (mg := mg) (base := base) e_open_among (fun _ _ _ _ _ _ us hl => match us, hl with | [_, _], _ => rfl) (fun F => ok_among F T M_keeps_marks)
  have M_open_ways := has_plan (P := P) (w := w) (mg := mg) (base := base) e_open_ways (fun _ _ _ _ _ _ us hl => match us, hl with | [_], _ => rfl) (fun F => ok_open F T M_open_among M_ways_among M_settings)
  have M_first_wrong := has_plan (P := P) (w := w) (mg := mg) (base := base) e_first_wrong (fun _ _ _ _ _ _ us hl => match us, hl with | [_, _], _ => rfl) (fun F => ok_wrong F T M_all_free H_is_lit_by_another H_lit_by M_free_cells M_numbers_missed)
  have M_many := has_plan (P := P) (w := w) (mg := mg) (base := base) e_many (fun _ _ _ _ _ _ us hl => match us, hl with | [_], _ => rfl) (fun F => ok_many F T M_settings M_ways_among M_open_among H_with_lists)
  have M_show := has_plan (P := P) (w := w) (mg := mg) (base := base) e_show (fun _ _ _ _ _ _ us hl => match us, hl with | [_, _], _ => rfl) (fun F => ok_show F T M_open_ways H_with_lists)
  have M_sure := has_plan (P := P) (w := w) (mg := mg) (base := base) e_sure (fun _ _ _ _ _ _ us hl => match us, hl with | [_], _ => rfl) (fun F => ok_sure F T M_open_ways M_free_cells H_in_all H_in_none H_with_lists)
  have M_try_out := has_plan (P := P) (w := w) (mg := mg) (base := base) e_try_out (fun _ _ _ _ _ _ us hl => match us, hl with | [_, _], _ => rfl) (fun F => ok_try F T M_first_wrong)
  have M_lit := has_plan (P := P) (w := w) (mg := mg) (base := base) e_lit (fun _ _ _ _ _ _ us hl => match us, hl with | [_, _], _ => rfl) (fun F => ok_lit F T M_all_free H_lit_by H_with_lists)
  have M_lamps := has_plan (P := P) (w := w) (mg := mg) (base := base) e_lamps (fun _ _ _ _ _ _ us hl => match us, hl with | [_], _ => rfl) (fun F => ok_lamps F T M_open_ways H_with_lists)
  have M_fewest := has_plan (P := P) (w := w) (mg := mg) (base := base) e_fewest (fun _ _ _ _ _ _ us hl => match us, hl with | [_], _ => rfl) (fun F => ok_fewest F T M_numbers_missed M_settings M_numbered H_fewest_that_meet H_with_lists)
  have M_state := has_plan (P := P) (w := w) (mg := mg) (base := base) e_state (fun _ _ _ _ _ _ us hl => match us, hl with | [_], _ => rfl) (fun F => ok_state F T M_marked H_with_lists)
  have M_begins := has_plan (P := P) (w := w) (mg := mg) (base := base) e_begins (fun _ _ _ _ _ _ us hl => match us, hl with | [_, _, _], _ => rfl) (fun F => ok_begins F T)
  have M_pillar := has_plan (P := P) (w := w) (mg := mg) (base := base) e_pillar (fun _ _ _ _ _ _ us hl => match us, hl with | [_, _, _], _ => rfl) (fun F => ok_pillar F T M_has_cell)
  have M_gone := has_plan (P := P) (w := w) (mg := mg) (base := base) e_gone (fun _ _ _ _ _ _ us hl => match us, hl with | [_, _], _ => rfl) (fun F => ok_gone F T M_has_cell)
  have M_mark := has_plan (P := P) (w := w) (mg := mg) (base := base) e_mark (fun _ _ _ _ _ _ us hl => match us, hl with | [_, _, _], _ => rfl) (fun F => ok_mark F T M_has_cell)
  have H_changing_answer := has_top (P := P) (w := w) (base := base) X G d_changing_answer (fun _ _ _ _ _ _ us hl => match us, hl with | [_, _, _], _ => rfl) (fun F => ok_change F T T2 M_begins M_pillar M_gone M_mark)
  have H_asking_answer := has_top (P := P) (w := w) (base := base) X G d_asking_answer (fun _ _ _ _ _ _ us hl => match us, hl with | [_, _, _], _ => rfl) (fun F => ok_ask F T T2 M_many M_show M_sure M_try_out M_fewest M_lamps M_lit M_state)
  have H_end_of_call := has_top (P := P) (w := w) (base := base) X G d_end_of_call (fun _ _ _ _ _ _ us hl => match us, hl with | [_, _], _ => rfl) (fun F => ok_end F T2 T3)
  exact ok_answers FA T T2 T3 ⟨mk, aI, iI, kc⟩ (ok_init FI T) bI H_end_of_call H_changing_answer H_asking_answer
end La
set_option Elab.async false
open PySem PySem.W PyProof.Rows
set_option maxRecDepth 100000 in
set_option maxHeartbeats 40000000 in
theorem PySem.Challenge.cw_lampways_s01_answers_holds : PySem.Challenge.rw_lampways_s01_answers.Holds := by
  w_on; k_headS; (case hw => exact ⟨[.list [.int 4]], by decide +kernel, by decide +kernel⟩)
  k_fillS
  refine L2.walk_specK (r := PySem.Challenge.rw_lampways_s01_answers) (k := 9) (CX := L2.CX0) (ps := ["calls"]) (sp := La.spAns) (by decide +kernel) rfl rfl ⟨rfl, by decide, by decide⟩ (fun w h Y => PySem.W.kIn_of Y) ?F ?S (fun _ _ _ _ z => z)
  case F =>
    intro w mg fa h Y KX G hmg
    refine' La.all_mk KX G hmg ?aC ?d_meets_all ?d_with_one_more ?d_fewest_that_meet ?d_lines_from ?d_beside ?d_lit_from ?d_lit_by ?d_is_lit_by_another ?d_bits_of ?d_with_and_without ?d_all_settings ?d_with_lists ?d_in_all ?d_in_none ?d_changing_answer ?d_asking_answer ?d_end_of_call ?d_answers ?e_has_cell ?e_free_cells ?e_all_free ?e_numbered ?e_marked ?e_settings ?e_lamps_beside ?e_numbers_missed ?e_ways_among ?e_keeps_marks ?e_open_among ?e_open_ways ?e_first_wrong ?e_many ?e_show ?e_sure ?e_try_out ?e_lit ?e_lamps ?e_fewest ?e_state ?e_begins ?e_pillar ?e_gone ?e_mark ?e_init ?pg ?hd ?po ?sa ?mk ?kc ?nR ?nC ?nP ?nM ?z_len ?z_any ?z_all ?z_sum ?z_min ?z_set ?z_sorted ?z_range ?z_divmod ?cRows ?cCols ?cBeside ?cNoNum ?cNot ?cWith ?cWithout ?cWrong ?cTwice ?cNoSuch ?cCell ?cWays ?cIs ?cNotOn ?cLit ?cDark ?cMissed ?kBegins ?kPillar ?kGone ?kMark ?kMany ?kShow ?kSure ?kTry ?kFewest ?kLamps ?kLit ?aT ?lT ?vT
    (case aC => k_is)
    (case d_meets_all => refine' La.topDef_mk ?a ?l ?c ?k; (case a => k_is); (case l => k_is); (case c => k_is); (case k => k_is))
    (case d_with_one_more => refine' La.topDef_mk ?a ?l ?c ?k; (case a => k_is); (case l => k_is); (case c => k_is); (case k => k_is))
    (case d_fewest_that_meet => refine' La.topDef_mk ?a ?l ?c ?k; (case a => k_is); (case l => k_is); (case c => k_is); (case k => k_is))
    (case d_lines_from => refine' La.topDef_mk ?a ?l ?c ?k; (case a => k_is); (case l => k_is); (case c => k_is); (case k => k_is))
    (case d_beside => refine' La.topDef_mk ?a ?l ?c ?k; (case a => k_is); (case l => k_is); (case c => k_is); (case k => k_is))
    (case d_lit_from => refine' La.topDef_mk ?a ?l ?c ?k; (case a => k_is); (case l => k_is); (case c => k_is); (case k => k_is))
    (case d_lit_by => refine' La.topDef_mk ?a ?l ?c ?k; (case a => k_is); (case l => k_is); (case c => k_is); (case k => k_is))
    (case d_is_lit_by_another => refine' La.topDef_mk ?a ?l ?c ?k; (case a => k_is); (case l => k_is); (case c => k_is); (case k => k_is))
    (case d_bits_of => refine' La.topDef_mk ?a ?l ?c ?k; (case a => k_is); (case l => k_is); (case c => k_is); (case k => k_is))
    (case d_with_and_without => refine' La.topDef_mk ?a ?l ?c ?k; (case a => k_is); (case l => k_is); (case c => k_is); (case k => k_is))
    (case d_all_settings => refine' La.topDef_mk ?a ?l ?c ?k; (case a => k_is); (case l => k_is); (case c => k_is); (case k => k_is))
    (case d_with_lists => refine' La.topDef_mk ?a ?l ?c ?k; (case a => k_is); (case l => k_is); (case c => k_is); (case k => k_is))
    (case d_in_all => refine' La.topDef_mk ?a ?l ?c ?k; (case a => k_is); (case l => k_is); (case c => k_is); (case k => k_is))
    (case d_in_none => refine' La.topDef_mk ?a ?l ?c ?k; (case a => k_is); (case l => k_is); (case c => k_is); (case k => k_is))
    (case d_changing_answer => refine' La.topDef_mk ?a ?l ?c ?k; (case a => k_is); (case l => k_is); (case c => k_is); (case k => k_is))
    (case d_asking_answer => refine' La.topDef_mk ?a ?l ?c ?k; (case a => k_is); (case l => k_is); (case c => k_is); (case k => k_is))
    (case d_end_of_call => refine' La.topDef_mk ?a ?l ?c ?k; (case a => k_is); (case l => k_is); (case c => k_is); (case k => k_is))
    (case d_answers => refine' La.topDef_mk ?a ?l ?c ?k; (case a => k_is); (case l => k_is); (case c => k_is); (case k => k_is))
    (case e_has_cell => refine' La.planDef_mk ?a ?i ?l ?c ?k; (case a => k_is); (case i => k_is); (case l => k_is); (case c => k_is); (case k => k_is))
    (case e_free_cells => refine' La.planDef_mk ?a ?i ?l ?c ?k; (case a => k_is); (case i => k_is); (case l => k_is); (case c => k_is); (case k => k_is))
    (case e_all_free => refine' La.planDef_mk ?a ?i ?l ?c ?k; (case a => k_is); (case i => k_is); (case l => k_is); (case c => k_is); (case k => k_is))
    (case e_numbered => refine' La.planDef_mk ?a ?i ?l ?c ?k; (case a => k_is); (case i => k_is); (case l => k_is); (case c => k_is); (case k => k_is))
    (case e_marked => refine' La.planDef_mk ?a ?i ?l ?c ?k; (case a => k_is); (case i => k_is); (case l => k_is); (case c => k_is); (case k => k_is))
    (case e_settings => refine' La.planDef_mk ?a ?i ?l ?c ?k; (case a => k_is); (case i => k_is); (case l => k_is); (case c => k_is); (case k => k_is))
    (case e_lamps_beside => refine' La.planDef_mk ?a ?i ?l ?c ?k; (case a => k_is); (case i => k_is); (case l => k_is); (case c => k_is); (case k => k_is))
    (case e_numbers_missed => refine' La.planDef_mk ?a ?i ?l ?c ?k; (case a => k_is); (case i => k_is); (case l => k_is); (case c => k_is); (case k => k_is))
    (case e_ways_among => refine' La.planDef_mk ?a ?i ?l ?c ?k; (case a => k_is); (case i => k_is); (case l => k_is); (case c => k_is); (case k => k_is))
    (case e_keeps_marks => refine' La.planDef_mk ?a ?i ?l ?c ?k; (case a => k_is); (case i => k_is); (case l => k_is); (case c => k_is); (case k => k_is))
    (case e_open_among => refine' La.planDef_mk ?a ?i ?l ?c ?k; (case a => k_is); (case i => k_is); (case l => k_is); (case c => k_is); (case k => k_is))
    (case e_open_ways => refine' La.planDef_mk ?a ?i ?l ?c ?k; (case a => k_is); (case i => k_is); (case l => k_is); (case c => k_is); (case k => k_is))
    (case e_first_wrong => refine' La.planDef_mk ?a ?i ?l ?c ?k; (case a => k_is); (case i => k_is); (case l => k_is); (case c => k_is); (case k => k_is))
    (case e_many => refine' La.planDef_mk ?a ?i ?l ?c ?k; (case a => k_is); (case i => k_is); (case l => k_is); (case c => k_is); (case k => k_is))
    (case e_show => refine' La.planDef_mk ?a ?i ?l ?c ?k; (case a => k_is); (case i => k_is); (case l => k_is); (case c => k_is); (case k => k_is))
    (case e_sure => refine' La.planDef_mk ?a ?i ?l ?c ?k; (case a => k_is); (case i => k_is); (case l => k_is); (case c => k_is); (case k => k_is))
    (case e_try_out => refine' La.planDef_mk ?a ?i ?l ?c ?k; (case a => k_is); (case i => k_is); (case l => k_is); (case c => k_is); (case k => k_is))
    (case e_lit => refine' La.planDef_mk ?a ?i ?l ?c ?k; (case a => k_is); (case i => k_is); (case l => k_is); (case c => k_is); (case k => k_is))
    (case e_lamps => refine' La.planDef_mk ?a ?i ?l ?c ?k; (case a => k_is); (case i => k_is); (case l => k_is); (case c => k_is); (case k => k_is))
    (case e_fewest => refine' La.planDef_mk ?a ?i ?l ?c ?k; (case a => k_is); (case i => k_is); (case l => k_is); (case c => k_is); (case k => k_is))
    (case e_state => refine' La.planDef_mk ?a ?i ?l ?c ?k; (case a => k_is); (case i => k_is); (case l => k_is); (case c => k_is); (case k => k_is))
    (case e_begins => refine' La.planDef_mk ?a ?i ?l ?c ?k; (case a => k_is); (case i => k_is); (case l => k_is); (case c => k_is); (case k => k_is))
    (case e_pillar => refine' La.planDef_mk ?a ?i ?l ?c ?k; (case a => k_is); (case i => k_is); (case l => k_is); (case c => k_is); (case k => k_is))
    (case e_gone => refine' La.planDef_mk ?a ?i ?l ?c ?k; (case a => k_is); (case i => k_is); (case l => k_is); (case c => k_is); (case k => k_is))
    (case e_mark => refine' La.planDef_mk ?a ?i ?l ?c ?k; (case a => k_is); (case i => k_is); (case l => k_is); (case c => k_is); (case k => k_is))
    (case e_init => refine' La.planDef_mk ?a ?i ?l ?c ?k; (case a => k_is); (case i => k_is); (case l => k_is); (case c => k_is); (case k => k_is))
    (case pg => k_is)
    (case hd => k_is)
    (case po => k_is)
    (case sa => k_is)
    (case mk => k_is)
    (case kc => k_is)
    (case nR => k_is)
    (case nC => k_is)
    (case nP => k_is)
    (case nM => k_is)
    (case z_len => show PySem.W.nsIn _ _ _ = _; k_is)
    (case z_any => show PySem.W.nsIn _ _ _ = _; k_is)
    (case z_all => show PySem.W.nsIn _ _ _ = _; k_is)
    (case z_sum => show PySem.W.nsIn _ _ _ = _; k_is)
    (case z_min => show PySem.W.nsIn _ _ _ = _; k_is)
    (case z_set => show PySem.W.nsIn _ _ _ = _; k_is)
    (case z_sorted => show PySem.W.nsIn _ _ _ = _; k_is)
    (case z_range => show PySem.W.nsIn _ _ _ = _; k_is)
    (case z_divmod => show PySem.W.nsIn _ _ _ = _; k_is)
    (case cRows => refine' La.topInt_mk ?a; (case a => k_is))
    (case cCols => refine' La.topInt_mk ?a; (case a => k_is))
    (case cBeside => refine' La.topInt_mk ?a; (case a => k_is))
    (case cNoNum => refine' La.topInt_mk ?a; (case a => k_is))
    (case cNot => refine' La.topInt_mk ?a; (case a => k_is))
    (case cWith => refine' La.topInt_mk ?a; (case a => k_is))
    (case cWithout => refine' La.topInt_mk ?a; (case a => k_is))
    (case cWrong => refine' La.topInt_mk ?a; (case a => k_is))
    (case cTwice => refine' La.topInt_mk ?a; (case a => k_is))
    (case cNoSuch => refine' La.topInt_mk ?a; (case a => k_is))
    (case cCell => refine' La.topInt_mk ?a; (case a => k_is))
    (case cWays => refine' La.topInt_mk ?a; (case a => k_is))
    (case cIs => refine' La.topInt_mk ?a; (case a => k_is))
    (case cNotOn => refine' La.topInt_mk ?a; (case a => k_is))
    (case cLit => refine' La.topInt_mk ?a; (case a => k_is))
    (case cDark => refine' La.topInt_mk ?a; (case a => k_is))
    (case cMissed => refine' La.topInt_mk ?a; (case a => k_is))
    (case kBegins => refine' La.topInt_mk ?a; (case a => k_is))
    (case kPillar => refine' La.topInt_mk ?a; (case a => k_is))
    (case kGone => refine' La.topInt_mk ?a; (case a => k_is))
    (case kMark => refine' La.topInt_mk ?a; (case a => k_is))
    (case kMany => refine' La.topInt_mk ?a; (case a => k_is))
    (case kShow => refine' La.topInt_mk ?a; (case a => k_is))
    (case kSure => refine' La.topInt_mk ?a; (case a => k_is))
    (case kTry => refine' La.topInt_mk ?a; (case a => k_is))
    (case kFewest => refine' La.topInt_mk ?a; (case a => k_is))
    (case kLamps => refine' La.topInt_mk ?a; (case a => k_is))
    (case kLit => refine' La.topInt_mk ?a; (case a => k_is))
    (case aT => k_is)
    (case lT => k_is)
    (case vT => exact ⟨by decide, .cons ⟨_, rfl⟩ (.cons ⟨_, rfl⟩ (.cons ⟨_, rfl⟩ (.cons ⟨_, rfl⟩ (.cons ⟨_, rfl⟩ (.cons ⟨_, rfl⟩ (.cons ⟨_, rfl⟩ (.cons ⟨_, rfl⟩ (.cons ⟨_, rfl⟩ (.cons ⟨_, rfl⟩ (.cons ⟨_, rfl⟩ (.cons ⟨_, rfl⟩ .nil)))))))))))⟩)
  case S =>
    intro K H xs a hO hwi hask hx
    cases hx with
    | cons h1 h2 =>
      cases h2
      cases h1 with
      | lst hs ha =>
        have e := L2.ints_dw a.1 _ ha
        subst e
        have q : ((Codec.inLen 0 6000 a.1 && a.1.all (Codec.inInt 0 4294967295)) && true) = true := hwi
        rw [Bool.and_eq_true, Bool.and_eq_true] at q
        exact ⟨_, a.1, rfl, hs, hask, (Codec.inNat_iff.mp q.1.1).2, fun H' p hp => .lst (L2.SqL.of hp) (L2.dw_ints _)⟩
