import PyProof.Rows.All
import Cm05Spec
import PyCm05
import Wide.All
import OpenK.AllK
import Wide.FinOn
import Open.SpecLaws
import KE.OsGo
import HandS.ForSpec
import HandS.Comp
import HandS.Iter
import HandS.Zip
import HandS.Wide
import PySem.Challenge.RW_wrappingturns_s01_answers
import HandS.Walk
set_option Elab.async false
set_option linter.all false
set_option maxRecDepth 100000
set_option maxHeartbeats 1000000
/-! The first multiple in a stretch: what firstIn gives is the least. -/
namespace Wt
open Cm05

/-- k is in the stretch -/
def Hit (s M lo hi k : Nat) : Prop := lo ≤ s * k % M ∧ s * k % M ≤ hi
/-- what an answer says -/
def Least (s M lo hi : Nat) : Option Nat → Prop
  | none => ∀ k, ¬ Hit s M lo hi k
  | some k => Hit s M lo hi k ∧ ∀ j, j < k → ¬ Hit s M lo hi j
/-- rounds enough -/
def Enough (f s M : Nat) : Prop := ∃ g, M < 2 ^ g ∧ 2 * g + (if M < 2 * s then 1 else 0) ≤ f

theorem mod_cancel {s z x c : Nat} (h : (z + c) % s = (x + c) % s) : z % s = x % s := by
  have h2 : (((z + c : Nat) : Int)) % s = (((x + c : Nat) : Int)) % s := by
    rw [← Int.natCast_emod, ← Int.natCast_emod, h]
  rw [Int.emod_eq_emod_iff_emod_sub_eq_zero] at h2
  have h3 : (z : Int) % s = (x : Int) % s := by
    rw [Int.emod_eq_emod_iff_emod_sub_eq_zero]
    rw [← h2]
    congr 1
    omega
  rw [← Int.natCast_emod, ← Int.natCast_emod] at h3
  exact Int.ofNat.inj h3

/-- the multiple number from lo on -/
theorem up_le {lo s : Nat} (hs : 0 < s) : lo ≤ (lo + s - 1) / s * s := by
  have h := Nat.div_add_mod (lo + s - 1) s
  have h2 := Nat.mod_lt (lo + s - 1) hs
  rw [Nat.mul_comm] at h
  omega
theorem up_least {lo s j : Nat} (hs : 0 < s) (h : lo ≤ s * j) : (lo + s - 1) / s ≤ j := by
  rw [Nat.div_le_iff_le_mul_add_pred hs]
  rw [Nat.mul_comm] at h
  rw [Nat.mul_comm]
  omega
theorem lt_up {lo s j : Nat} (hs : 0 < s) (h : j < (lo + s - 1) / s) : s * j < lo := by
  apply Nat.lt_of_not_le
  intro h2
  have := up_least hs h2
  omega

/-- a stretch without a multiple lies in one block -/
theorem block {s lo hi : Nat} (hs : 0 < s) (hle : lo ≤ hi) (hn : hi < (lo + s - 1) / s * s) : lo / s = hi / s ∧ 0 < lo % s := by
  have a := Nat.div_add_mod lo s
  have b := Nat.mod_lt lo hs
  have hpos : 0 < lo % s := by
    apply Nat.pos_of_ne_zero
    intro h0
    have e : (lo + s - 1) / s ≤ lo / s := up_least hs (by omega)
    have e2 : (lo + s - 1) / s * s ≤ lo / s * s := Nat.mul_le_mul_right s e
    rw [Nat.mul_comm (lo / s)] at e2
    omega
  refine ⟨?_, hpos⟩
  have e : (lo + s - 1) / s ≤ lo / s + 1 := up_least hs (by rw [Nat.mul_add]; omega)
  have e2 : (lo + s - 1) / s * s ≤ (lo / s + 1) * s := Nat.mul_le_mul_right s e
  apply Nat.le_antisymm
  · exact Nat.div_le_div_right hle
  · apply Nat.le_of_lt_succ
    rw [Nat.div_lt_iff_lt_mul hs]
    show hi < (lo / s + 1) * s
    omega

theorem minus_dvd {s M : Nat} (hs : 0 < s) (y : Nat) : ((s - M % s) % s * y + M * y) % s = 0 := by
  rw [← Nat.add_mul, Nat.mul_mod]
  have h : ((s - M % s) % s + M) % s = 0 := by
    rw [Nat.add_mod, Nat.mod_mod]
    have := Nat.mod_lt M hs
    by_cases h0 : M % s = 0
    · rw [h0, Nat.sub_zero, Nat.mod_self]; rfl
    · rw [Nat.mod_eq_of_lt (a := s - M % s) (by omega), Nat.sub_add_cancel (by omega), Nat.mod_self]
  rw [h, Nat.zero_mul, Nat.zero_mod]

/-- some k with s k in the stretch moved by y wraps: the same question modulo s -/
theorem wraps_iff {s M lo hi y : Nat} (hs : 0 < s) (hb : lo / s = hi / s) :
    (∃ k, lo + M * y ≤ s * k ∧ s * k ≤ hi + M * y) ↔ Hit ((s - M % s) % s) s (lo % s) (hi % s) y := by
  have z := minus_dvd (M := M) hs y
  have a := Nat.div_add_mod lo s
  have b := Nat.div_add_mod hi s
  rw [← hb] at b
  unfold Hit
  generalize hz : (s - M % s) % s * y = Z at z ⊢
  generalize M * y = W at z ⊢
  constructor
  · rintro ⟨k, h1, h2⟩
    have e : Z % s = (s * k - W) % s := by
      apply mod_cancel (c := W)
      rw [z, Nat.sub_add_cancel (by omega), Nat.mul_mod_right]
    rw [e]
    generalize hx : s * k - W = x
    have hx1 : lo ≤ x := by omega
    have hx2 : x ≤ hi := by omega
    have d : x / s = lo / s := by
      apply Nat.le_antisymm
      · rw [hb]; exact Nat.div_le_div_right hx2
      · exact Nat.div_le_div_right hx1
    have c := Nat.div_add_mod x s
    rw [d] at c
    omega
  · rintro ⟨h1, h2⟩
    have hx : (s * (lo / s) + Z % s + W) % s = 0 := by
      rw [← z, Nat.add_assoc, Nat.mul_add_mod, Nat.add_mod, Nat.mod_mod, ← Nat.add_mod]
    refine ⟨(s * (lo / s) + Z % s + W) / s, ?_, ?_⟩
    · rw [Nat.mul_div_cancel' (Nat.dvd_of_mod_eq_zero hx)]
      omega
    · rw [Nat.mul_div_cancel' (Nat.dvd_of_mod_eq_zero hx)]
      omega

/-- backwards -/
theorem mod_back {s M k : Nat} (hs : s < M) : (M - s) * k % M = (M - s * k % M) % M := by
  have hM : 0 < M := by omega
  have e : ((M - s) * k + s * k) % M = 0 := by
    rw [← Nat.add_mul, Nat.sub_add_cancel (by omega), Nat.mul_mod_right]
  have l := Nat.mod_lt (s * k) hM
  have e2 : ((M - s) * k) % M = (M - s * k % M) % M := by
    apply mod_cancel (c := s * k)
    rw [e]
    have d := Nat.div_add_mod (s * k) M
    have e3 : M - s * k % M + s * k = M * (s * k / M + 1) := by
      rw [Nat.mul_add]
      omega
    rw [e3, Nat.mul_mod_right]
  exact e2
theorem hit_back {s M lo hi k : Nat} (hs : s < M) (h0 : 0 < lo) (hl : lo ≤ hi) (hh : hi < M) : Hit (M - s) M (M - hi) (M - lo) k ↔ Hit s M lo hi k := by
  unfold Hit
  rw [mod_back hs]
  have l := Nat.mod_lt (s * k) (show 0 < M by omega)
  by_cases z : s * k % M = 0
  · rw [z, Nat.sub_zero, Nat.mod_self]
    omega
  · rw [Nat.mod_eq_of_lt (a := M - s * k % M) (by omega)]
    omega
theorem least_back {s M lo hi : Nat} (hs : s < M) (h0 : 0 < lo) (hl : lo ≤ hi) (hh : hi < M) : ∀ o, Least (M - s) M (M - hi) (M - lo) o → Least s M lo hi o
  | none, h => fun k q => h k ((hit_back hs h0 hl hh).mpr q)
  | some _, h => ⟨(hit_back hs h0 hl hh).mp h.1, fun j hj q => h.2 j hj ((hit_back hs h0 hl hh).mpr q)⟩

/-- a hit, by the wraps -/
theorem hit_iff {s M lo hi k : Nat} (hM : 0 < M) (hh : hi < M) : Hit s M lo hi k ↔ lo + M * (s * k / M) ≤ s * k ∧ s * k ≤ hi + M * (s * k / M) := by
  unfold Hit
  have d := Nat.div_add_mod (s * k) M
  have l := Nat.mod_lt (s * k) hM
  omega
theorem hit_of {s M lo hi k y : Nat} (hM : 0 < M) (hh : hi < M) (h : lo + M * y ≤ s * k ∧ s * k ≤ hi + M * y) : Hit s M lo hi k := by
  have e : s * k / M = y := by
    rw [Nat.div_eq_iff hM]
    rw [Nat.mul_comm]
    omega
  rw [hit_iff hM hh, e]
  exact h

theorem least_wraps {s M lo hi : Nat} (hs : 0 < s) (hM : s ≤ M) (hl : lo ≤ hi) (hh : hi < M) (hn : hi < (lo + s - 1) / s * s) :
    ∀ o, Least ((s - M % s) % s) s (lo % s) (hi % s) o → Least s M lo hi (match o with | none => none | some y => some ((lo + M * y + s - 1) / s)) := by
  have hb := (block hs hl hn).1
  have hM0 : 0 < M := by omega
  intro o
  cases o with
  | none =>
    intro h k q
    rw [hit_iff hM0 hh] at q
    exact h _ ((wraps_iff hs hb).mp ⟨k, q⟩)
  | some y =>
    rintro ⟨h1, h2⟩
    obtain ⟨k, k1, k2⟩ := (wraps_iff (M := M) hs hb).mpr h1
    have u := up_le (lo := lo + M * y) hs
    have v := up_least (lo := lo + M * y) hs k1
    have v2 : s * ((lo + M * y + s - 1) / s) ≤ s * k := Nat.mul_le_mul_left s v
    refine ⟨hit_of (y := y) hM0 hh ⟨?_, ?_⟩, ?_⟩
    · rw [Nat.mul_comm s]
      exact u
    · omega
    · intro j hj q
      rw [hit_iff hM0 hh] at q
      have hy : ¬ s * j / M < y := fun c => h2 _ c ((wraps_iff hs hb).mp ⟨j, q⟩)
      have hy2 : M * y ≤ M * (s * j / M) := Nat.mul_le_mul_left M (by omega)
      have := up_least (lo := lo + M * y) (j := j) hs (by omega)
      omega

theorem firstIn_least : ∀ (f s M lo hi : Nat), Enough f s M → s < M → lo ≤ hi → hi < M → Least s M lo hi (firstIn f s M lo hi)
  | 0, s, M, lo, hi, ⟨g, h1, h2⟩, hs, hl, hh => by
    have g0 : g = 0 := by omega
    subst g0
    simp at h1
    omega
  | f + 1, s, M, lo, hi, ⟨g, h1, h2⟩, hs, hl, hh => by
    unfold firstIn
    by_cases c0 : lo = 0
    · rw [if_pos c0]
      refine ⟨?_, fun j hj => absurd hj (Nat.not_lt_zero j)⟩
      unfold Hit
      rw [Nat.mul_zero, Nat.zero_mod]
      omega
    rw [if_neg c0]
    by_cases c1 : s = 0
    · rw [if_pos c1]
      intro k q
      unfold Hit at q
      rw [c1, Nat.zero_mul, Nat.zero_mod] at q
      omega
    rw [if_neg c1]
    by_cases c2 : M < 2 * s
    · rw [if_pos c2]
      rw [if_pos c2] at h2
      refine least_back hs (by omega) hl hh _ (firstIn_least f (M - s) M (M - hi) (M - lo) ⟨g, h1, ?_⟩ (by omega) (by omega) (by omega))
      rw [if_neg (by omega)]
      omega
    rw [if_neg c2]
    show Least s M lo hi (if (lo + s - 1) / s * s ≤ hi then some ((lo + s - 1) / s) else match firstIn f ((s - M % s) % s) s (lo % s) (hi % s) with
        | none => none
        | some y => some ((lo + M * y + s - 1) / s))
    have hs0 : 0 < s := by omega
    by_cases c3 : (lo + s - 1) / s * s ≤ hi
    · rw [if_pos c3]
      have u := up_le (lo := lo) hs0
      refine ⟨?_, fun j hj q => ?_⟩
      · unfold Hit
        rw [Nat.mul_comm, Nat.mod_eq_of_lt (by omega)]
        exact ⟨u, c3⟩
      · have := lt_up hs0 hj
        unfold Hit at q
        rw [Nat.mod_eq_of_lt (by omega)] at q
        omega
    · rw [if_neg c3]
      have bl := block hs0 hl (by omega)
      refine least_wraps hs0 (by omega) hl hh (by omega) _ (firstIn_least f _ s _ _ ?_ (Nat.mod_lt _ hs0) ?_ (Nat.mod_lt _ hs0))
      · cases g with
        | zero => simp at h1; omega
        | succ g =>
          refine ⟨g, ?_, ?_⟩
          · rw [Nat.pow_succ] at h1
            omega
          · split <;> omega
      · have a := Nat.div_add_mod lo s
        have b := Nat.div_add_mod hi s
        rw [← bl.1] at b
        omega

/-- with what is handed in there are rounds enough -/
theorem enough_rounds {s M : Nat} (h : M ≤ 2 ^ 32) : Enough ROUNDS s M := by
  refine ⟨33, Nat.lt_of_le_of_lt h (by decide), ?_⟩
  unfold ROUNDS
  split <;> omega
theorem least_lt {s M lo hi k : Nat} (hM : 0 < M) (h : Least s M lo hi (some k)) : k < M := by
  apply Nat.lt_of_not_le
  intro c
  have e : Hit s M lo hi (k % M) := by
    unfold Hit
    rw [Nat.mul_mod, Nat.mod_mod, ← Nat.mul_mod]
    exact h.1
  have := Nat.mod_lt k hM
  exact h.2 (k % M) (by omega) e
theorem least_uniq {s M lo hi : Nat} {o o' : Option Nat} (h : Least s M lo hi o) (h' : Least s M lo hi o') : o = o' := by
  cases o with
  | none => cases o' with
    | none => rfl
    | some k => exact absurd h'.1 (h k)
  | some j => cases o' with
    | none => exact absurd h.1 (h' j)
    | some k =>
      have a := h.2 k
      have b := h'.2 j
      congr 1
      apply Nat.le_antisymm
      · exact Nat.le_of_not_lt fun c => a c h'.1
      · exact Nat.le_of_not_lt fun c => b c h.1
theorem firstIn_lt {f s M lo hi k : Nat} (e : Enough f s M) (hs : s < M) (hl : lo ≤ hi) (hh : hi < M) (h : firstIn f s M lo hi = some k) : k < M := by
  have l := firstIn_least f s M lo hi e hs hl hh
  rw [h] at l
  exact least_lt (by omega) l
/-- one round, where the stretch begins above 0 -/
theorem firstIn_zero_step {f M lo hi : Nat} (h : 0 < lo) : firstIn (f + 1) 0 M lo hi = none := by
  unfold firstIn
  rw [if_neg (by omega), if_pos rfl]
end Wt
/-! Binomials: the specification's own are those of Pascal. -/
namespace Wt
open Cm05

/-- whole numbers of natural ones -/
abbrev zs (c : List Nat) : List Int := c.map fun (n : Nat) => (n : Int)

def binom : Nat → Nat → Nat
  | _, 0 => 1
  | 0, _ + 1 => 0
  | k + 1, j + 1 => binom k j + binom k (j + 1)
theorem binom_zero (k : Nat) : binom k 0 = 1 := by cases k <;> rfl
theorem binom_over : ∀ {k j : Nat}, k < j → binom k j = 0
  | 0, j + 1, _ => rfl
  | k + 1, j + 1, h => by
    show binom k j + binom k (j + 1) = 0
    rw [binom_over (by omega), binom_over (by omega)]
theorem binom_self : ∀ k : Nat, binom k k = 1
  | 0 => rfl
  | k + 1 => by
    show binom k k + binom k (k + 1) = 1
    rw [binom_self k, binom_over (by omega)]
/-- (j + 1) C(k, j + 1) = C(k, j) (k - j) -/
theorem binom_absorb : ∀ k j : Nat, (j + 1) * binom k (j + 1) = binom k j * (k - j)
  | 0, j => by
    show (j + 1) * 0 = binom 0 j * (0 - j)
    rw [Nat.zero_sub, Nat.mul_zero, Nat.mul_zero]
  | k + 1, 0 => by
    have ih : 1 * binom k 1 = binom k 0 * (k - 0) := binom_absorb k 0
    show 1 * (binom k 0 + binom k 1) = 1 * (k + 1 - 0)
    rw [binom_zero] at ih ⊢
    omega
  | k + 1, j + 1 => by
    show (j + 1 + 1) * (binom k (j + 1) + binom k (j + 2)) = (binom k j + binom k (j + 1)) * (k + 1 - (j + 1))
    have h1 := binom_absorb k j
    have h2 := binom_absorb k (j + 1)
    by_cases c : k < j + 1
    · rw [binom_over (k := k) (j := j + 1) c, binom_over (k := k) (j := j + 2) (by omega)]
      have e : k + 1 - (j + 1) = k - j := by omega
      rw [e]
      have e2 : k - j = 0 := by omega
      rw [e2]
      simp
    · have e : k + 1 - (j + 1) = k - j := by omega
      have e2 : k - j = (k - (j + 1)) + 1 := by omega
      rw [e, Nat.mul_add, Nat.add_mul (binom k j), ← h1, h2]
      rw [e2, Nat.mul_add, Nat.add_mul (j + 1) 1]
      omega
theorem choose_eq : ∀ k j : Nat, choose k j = binom k j
  | k, 0 => (binom_zero k).symm
  | k, j + 1 => by
    show choose k j * (k - j) / (j + 1) = binom k (j + 1)
    rw [choose_eq k j, ← binom_absorb, Nat.mul_div_cancel_left _ (Nat.succ_pos j)]
theorem choose_over {k j : Nat} (h : k < j) : choose k j = 0 := by rw [choose_eq, binom_over h]
theorem choose_pascal (k j : Nat) : choose (k + 1) (j + 1) = choose k j + choose k (j + 1) := by rw [choose_eq, choose_eq, choose_eq]; rfl
theorem choose_succ (k j : Nat) : choose k (j + 1) = choose k j * (k - j) / (j + 1) := rfl
theorem binom_le : ∀ k j : Nat, binom k j ≤ (k + 1) ^ j
  | k, 0 => by rw [binom_zero]; exact Nat.le_refl _
  | 0, j + 1 => Nat.zero_le _
  | k + 1, j + 1 => by
    show binom k j + binom k (j + 1) ≤ (k + 1 + 1) ^ (j + 1)
    have h1 := binom_le k j
    have h2 := binom_le k (j + 1)
    have h3 : (k + 1) ^ j ≤ (k + 2) ^ j := Nat.pow_le_pow_left (by omega) j
    rw [Nat.pow_succ] at h2 ⊢
    have h4 : (k + 1) ^ j * (k + 1) ≤ (k + 2) ^ j * (k + 1) := Nat.mul_le_mul_right _ h3
    show binom k j + binom k (j + 1) ≤ (k + 2) ^ j * (k + 1 + 1)
    rw [Nat.mul_add (n := (k + 2) ^ j) (k := 1), Nat.mul_one]
    omega

/-! the numbers of a chain -/
theorem total_fold : ∀ (l : List Nat) (a : Nat), l.foldl (fun a b => a + b) a = a + total l
  | [], a => by show a = a + 0; omega
  | x :: l, a => by
    show l.foldl (fun a b => a + b) (a + x) = a + l.foldl (fun a b => a + b) (0 + x)
    rw [total_fold l (a + x), total_fold l (0 + x)]
    omega
theorem total_nil : total [] = 0 := rfl
theorem total_cons (x : Nat) (l : List Nat) : total (x :: l) = x + total l := by
  show l.foldl (fun a b => a + b) (0 + x) = _
  rw [total_fold]
  omega
theorem total_append : ∀ a b : List Nat, total (a ++ b) = total a + total b
  | [], b => by show total b = 0 + total b; omega
  | x :: a, b => by
    show total (x :: (a ++ b)) = _
    rw [total_cons, total_cons, total_append a b]
    omega
end Wt
/-! What holds of a table's state, and that it holds behind each call. -/
namespace Wt
open Cm05 (normal)

theorem normal_zero {l : List Nat} (h : l ≠ []) : normal (l ++ [0]) = normal l := by
  unfold normal
  rw [List.reverse_append]
  rfl
theorem normal_nz {l : List Nat} {x : Nat} (h : x ≠ 0) : normal (l ++ [x]) = l ++ [x] := by
  unfold normal
  rw [List.reverse_append]
  have e : (([x].reverse ++ l.reverse).dropWhile fun x => x == 0) = x :: l.reverse := by
    show ((x :: l.reverse).dropWhile fun x => x == 0) = x :: l.reverse
    rw [List.dropWhile_cons, if_neg (by simpa using h)]
  rw [e]
  rw [List.reverse_cons, List.reverse_reverse]
  cases l <;> rfl
theorem normal_one (x : Nat) : normal [x] = [x] := by
  by_cases h : x = 0
  · subst h; rfl
  · exact normal_nz (l := []) h
/-- from the end -/
theorem normal_cases (motive : List Nat → Prop) (h0 : motive []) (h1 : motive [0]) (hz : ∀ l, l ≠ [] → motive l → motive (l ++ [0])) (hn : ∀ l x, x ≠ 0 → motive (l ++ [x])) (c : List Nat) : motive c := by
  have key : ∀ r : List Nat, motive r.reverse := by
    intro r
    induction r with
    | nil => exact h0
    | cons x r ih =>
      rw [List.reverse_cons]
      by_cases e : x = 0
      · subst e
        by_cases er : r = []
        · subst er; exact h1
        · exact hz _ (by simpa using er) ih
      · exact hn _ _ e
  have := key c.reverse
  rwa [List.reverse_reverse] at this
theorem normal_ne (c : List Nat) : normal c ≠ [] := by
  refine normal_cases (fun c => normal c ≠ []) (by decide) (by decide) (fun l hl ih => ?_) (fun l x hx => ?_) c
  · rw [normal_zero hl]; exact ih
  · rw [normal_nz hx]; simp
theorem normal_idem (c : List Nat) : normal (normal c) = normal c := by
  refine normal_cases (fun c => normal (normal c) = normal c) (by decide) (by decide) (fun l hl ih => ?_) (fun l x hx => ?_) c
  · rw [normal_zero hl]; exact ih
  · rw [normal_nz hx, normal_nz hx]
theorem normal_mem {c : List Nat} {y : Nat} : y ∈ normal c → y ∈ c ∨ y = 0 := by
  refine normal_cases (fun c => y ∈ normal c → y ∈ c ∨ y = 0) (fun h => ?_) (fun h => ?_) (fun l hl ih h => ?_) (fun l x hx h => ?_) c
  · have h : y ∈ [0] := h
    simp at h
    exact .inr h
  · have h : y ∈ [0] := h
    simp at h
    exact .inr h
  · rw [normal_zero hl] at h
    rcases ih h with h | h
    · exact .inl (List.mem_append_left _ h)
    · exact .inr h
  · rw [normal_nz hx] at h
    exact .inl h

/-- what holds of a table's state -/
structure Good (m : Cm05.St) : Prop where
  n1 : 1 ≤ m.n
  n2 : m.n ≤ 32
  len : m.chains.length = 8
  ch : ∀ c ∈ m.chains, c ≠ [] ∧ c.length ≤ 8 ∧ normal c = c ∧ ∀ x ∈ c, x < 2 ^ m.n
theorem good_init : Good Cm05.init := ⟨by decide, by decide, rfl, by decide⟩
theorem good_anew {n : Nat} (h1 : 1 ≤ n) (h2 : n ≤ 32) : Good (Cm05.anew n) := by
  refine ⟨h1, h2, rfl, fun c hc => ?_⟩
  have e : c = [0] := List.eq_of_mem_replicate hc
  subst e
  refine ⟨by decide, by decide, by decide, fun x hx => ?_⟩
  rw [List.mem_singleton] at hx
  subst hx
  exact Nat.two_pow_pos _
theorem good_put {m : Cm05.St} (g : Good m) {names : List Nat} {c : List Nat} (h : ∀ y ∈ c, y < 2 ^ m.n) : Good (Cm05.put m names (normal c)).1 := by
  unfold Cm05.put
  cases names with
  | nil => exact g
  | cons z r =>
    dsimp only
    split
    · exact g
    · split
      · exact g
      · rename_i h8
        refine ⟨g.n1, g.n2, ?_, fun d hd => ?_⟩
        · show (m.chains.set z (normal c)).length = 8
          rw [List.length_set]
          exact g.len
        · rcases List.mem_or_eq_of_mem_set hd with hd | hd
          · exact g.ch d hd
          · subst hd
            refine ⟨normal_ne c, by omega, normal_idem c, fun x hx => ?_⟩
            rcases normal_mem hx with hx | hx
            · exact h x hx
            · subst hx; exact Nat.two_pow_pos _
theorem map_mod_lt {α : Type} {l : List α} {f : α → Nat} {M : Nat} (hM : 0 < M) : ∀ y ∈ l.map (fun i => f i % M), y < M := fun y hy => by
  obtain ⟨i, _, rfl⟩ := List.mem_map.mp hy
  exact Nat.mod_lt _ hM
theorem differences_lt {M : Nat} (hM : 0 < M) : ∀ l : List Nat, ∀ y ∈ Cm05.differences M l, y < M
  | [], y, hy => by cases hy
  | [_], y, hy => by cases hy
  | a :: b :: l, y, hy => by
    rcases List.mem_cons.mp hy with rfl | hy
    · exact Nat.mod_lt _ hM
    · exact differences_lt hM (b :: l) y hy
theorem newton_lt {M : Nat} (hM : 0 < M) : ∀ (k : Nat) (l : List Nat), (∀ y ∈ l, y < M) → ∀ y ∈ Cm05.newton M k l, y < M
  | 0, _, _, y, hy => by cases hy
  | _ + 1, [], _, y, hy => by cases hy
  | k + 1, a :: l, h, y, hy => by
    rcases List.mem_cons.mp hy with rfl | hy
    · exact h _ (by simp)
    · exact newton_lt hM k _ (differences_lt hM _) y hy
theorem Good.at_lt {m : Cm05.St} (g : Good m) (x : Nat) : ∀ y ∈ Cm05.chainAt m x, y < 2 ^ m.n := fun y hy => by
  unfold Cm05.chainAt at hy
  rw [List.getD_eq_getElem?_getD] at hy
  cases e : m.chains[x]? with
  | none =>
    rw [e] at hy
    have hy : y ∈ [0] := hy
    rw [List.mem_singleton] at hy
    subst hy
    exact Nat.two_pow_pos _
  | some c =>
    rw [e] at hy
    exact (g.ch c (List.mem_of_getElem? e)).2.2.2 y hy
theorem step_good {m : Cm05.St} (g : Good m) (x : Cm05.Call) : Good (Cm05.step m x).1 := by
  have hM : 0 < 2 ^ m.n := Nat.two_pow_pos _
  cases x with
  | width n =>
    unfold Cm05.step
    dsimp only
    split
    · exact g
    · exact good_anew (by omega) (by omega)
  | chain x l =>
    unfold Cm05.step
    dsimp only
    split
    · exact g
    · split
      · exact g
      · rename_i h
        refine good_put g fun y hy => ?_
        have hw : Cm05.words m l = true := by
          cases e : Cm05.words m l with
          | true => rfl
          | false => exact absurd (.inr (.inr e)) h
        unfold Cm05.words at hw
        rw [List.all_eq_true] at hw
        exact of_decide_eq_true (hw y hy)
  | plus z x y => exact good_put g (map_mod_lt hM)
  | less z x y => exact good_put g (map_mod_lt hM)
  | times z x y => exact good_put g (map_mod_lt hM)
  | ahead z x d => exact good_put g (map_mod_lt hM)
  | every z x d =>
    refine good_put g (newton_lt hM _ _ ?_)
    intro y hy
    obtain ⟨i, _, rfl⟩ := List.mem_map.mp hy
    exact Nat.mod_lt _ hM
  | sums z x =>
    refine good_put g fun y hy => ?_
    rcases List.mem_cons.mp hy with rfl | hy
    · exact hM
    · exact g.at_lt x y hy
  | _ => exact g
end Wt
/-! The list of calls, call by call. -/
namespace Wt

def R0 (ns : List Int) (x : Cm05.Call) : Prop := ∃ n : Nat, ns = zs [n] ∧ n < 2 ^ 32 ∧ x = .width n
def R1 (ns : List Int) (x : Cm05.Call) : Prop := ∃ r a s b : Nat, ns = zs [r, a, s, b] ∧ x = .turns r a s b
def R2' (ns : List Int) (x : Cm05.Call) : Prop := ∃ a s lo hi : Nat, ns = zs [a, s, lo, hi] ∧ x = .lands a s lo hi
def R3 (ns : List Int) (x : Cm05.Call) : Prop := ∃ (p : Nat) (ws : List Nat), ns = zs (p :: ws.length :: ws) ∧ ws.length ≤ 12 ∧ x = .chain p ws
def R4 (ns : List Int) (x : Cm05.Call) : Prop := ∃ p : Nat, ns = zs [p] ∧ x = .shows p
def R5 (ns : List Int) (x : Cm05.Call) : Prop := ∃ p k : Nat, ns = zs [p, k] ∧ k < 2 ^ 32 ∧ x = .at_ p k
def R6 (ns : List Int) (x : Cm05.Call) : Prop := ∃ p k : Nat, ns = zs [p, k] ∧ k < 2 ^ 32 ∧ x = .sum p k
def R7 (ns : List Int) (x : Cm05.Call) : Prop := ∃ p q r : Nat, ns = zs [p, q, r] ∧ x = .plus p q r
def R8 (ns : List Int) (x : Cm05.Call) : Prop := ∃ p q r : Nat, ns = zs [p, q, r] ∧ x = .less p q r
def R9 (ns : List Int) (x : Cm05.Call) : Prop := ∃ p q r : Nat, ns = zs [p, q, r] ∧ x = .times p q r
def R10 (ns : List Int) (x : Cm05.Call) : Prop := ∃ p q d : Nat, ns = zs [p, q, d] ∧ d < 2 ^ 32 ∧ x = .ahead p q d
def R11 (ns : List Int) (x : Cm05.Call) : Prop := ∃ p q d : Nat, ns = zs [p, q, d] ∧ d < 2 ^ 32 ∧ x = .every p q d
def R12 (ns : List Int) (x : Cm05.Call) : Prop := ∃ p q : Nat, ns = zs [p, q] ∧ x = .sums p q
def R13 (ns : List Int) (x : Cm05.Call) : Prop := ∃ p : Nat, ns = zs [p] ∧ x = .period p
def R14 (ns : List Int) (x : Cm05.Call) : Prop := ∃ p q : Nat, ns = zs [p, q] ∧ x = .same p q
def R15 (ns : List Int) (x : Cm05.Call) : Prop := ∃ p r a s b : Nat, ns = zs [p, r, a, s, b] ∧ x = .after p r a s b
def R16 (ns : List Int) (x : Cm05.Call) : Prop := ∃ a s b t n : Nat, ns = zs [a, s, b, t, n] ∧ a < 2 ^ 32 ∧ s < 2 ^ 32 ∧ b < 2 ^ 32 ∧ t < 2 ^ 32 ∧ n < 2 ^ 32 ∧ x = .meets a s b t n
def R17 (ns : List Int) (x : Cm05.Call) : Prop := ∃ a s b t n : Nat, ns = zs [a, s, b, t, n] ∧ a < 2 ^ 32 ∧ s < 2 ^ 32 ∧ b < 2 ^ 32 ∧ t < 2 ^ 32 ∧ n < 2 ^ 32 ∧ x = .apart a s b t n

/-- the numbers of the call number i, behind i, are those of x -/
def RR (i : Nat) (ns : List Int) (x : Cm05.Call) : Prop := ∃ as : List Nat, (∀ y ∈ as, y < 2 ^ 32) ∧ Cm05Neutral.callIn (i :: as) = some x ∧
  if i = 3 then ∃ p ws, as = p :: ws ∧ ws.length ≤ 12 ∧ ns = zs (p :: ws.length :: ws) else ns = zs as

theorem RR.r0 {ns : List Int} {x : Cm05.Call} : RR 0 ns x → R0 ns x := by
  rintro ⟨as, hb, h, e⟩
  rw [if_neg (by decide)] at e
  match as, h with
  | [n], h => exact ⟨n, e, hb n (by simp), (Option.some.inj h).symm⟩
theorem RR.r1 {ns : List Int} {x : Cm05.Call} : RR 1 ns x → R1 ns x := by
  rintro ⟨as, hb, h, e⟩
  rw [if_neg (by decide)] at e
  match as, h with
  | [r, a, s, b], h => exact ⟨r, a, s, b, e, (Option.some.inj h).symm⟩
theorem RR.r2 {ns : List Int} {x : Cm05.Call} : RR 2 ns x → R2' ns x := by
  rintro ⟨as, hb, h, e⟩
  rw [if_neg (by decide)] at e
  match as, h with
  | [r, a, s, b], h => exact ⟨r, a, s, b, e, (Option.some.inj h).symm⟩
theorem RR.r3 {ns : List Int} {x : Cm05.Call} : RR 3 ns x → R3 ns x := by
  rintro ⟨as, hb, h, e⟩
  rw [if_pos rfl] at e
  obtain ⟨p, ws, rfl, hl, e⟩ := e
  exact ⟨p, ws, e, hl, (Option.some.inj h).symm⟩
theorem RR.r4 {ns : List Int} {x : Cm05.Call} : RR 4 ns x → R4 ns x := by
  rintro ⟨as, hb, h, e⟩
  rw [if_neg (by decide)] at e
  match as, h with
  | [n], h => exact ⟨n, e, (Option.some.inj h).symm⟩
theorem RR.r5 {ns : List Int} {x : Cm05.Call} : RR 5 ns x → R5 ns x := by
  rintro ⟨as, hb, h, e⟩
  rw [if_neg (by decide)] at e
  match as, h with
  | [p, k], h => exact ⟨p, k, e, hb k (by simp), (Option.some.inj h).symm⟩
theorem RR.r6 {ns : List Int} {x : Cm05.Call} : RR 6 ns x → R6 ns x := by
  rintro ⟨as, hb, h, e⟩
  rw [if_neg (by decide)] at e
  match as, h with
  | [p, k], h => exact ⟨p, k, e, hb k (by simp), (Option.some.inj h).symm⟩
theorem RR.r7 {ns : List Int} {x : Cm05.Call} : RR 7 ns x → R7 ns x := by
  rintro ⟨as, hb, h, e⟩
  rw [if_neg (by decide)] at e
  match as, h with
  | [p, q, r], h => exact ⟨p, q, r, e, (Option.some.inj h).symm⟩
theorem RR.r8 {ns : List Int} {x : Cm05.Call} : RR 8 ns x → R8 ns x := by
  rintro ⟨as, hb, h, e⟩
  rw [if_neg (by decide)] at e
  match as, h with
  | [p, q, r], h => exact ⟨p, q, r, e, (Option.some.inj h).symm⟩
theorem RR.r9 {ns : List Int} {x : Cm05.Call} : RR 9 ns x → R9 ns x := by
  rintro ⟨as, hb, h, e⟩
  rw [if_neg (by decide)] at e
  match as, h with
  | [p, q, r], h => exact ⟨p, q, r, e, (Option.some.inj h).symm⟩
theorem RR.r10 {ns : List Int} {x : Cm05.Call} : RR 10 ns x → R10 ns x := by
  rintro ⟨as, hb, h, e⟩
  rw [if_neg (by decide)] at e
  match as, h with
  | [p, q, r], h => exact ⟨p, q, r, e, hb r (by simp), (Option.some.inj h).symm⟩
theorem RR.r11 {ns : List Int} {x : Cm05.Call} : RR 11 ns x → R11 ns x := by
  rintro ⟨as, hb, h, e⟩
  rw [if_neg (by decide)] at e
  match as, h with
  | [p, q, r], h => exact ⟨p, q, r, e, hb r (by simp), (Option.some.inj h).symm⟩
theorem RR.r12 {ns : List Int} {x : Cm05.Call} : RR 12 ns x → R12 ns x := by
  rintro ⟨as, hb, h, e⟩
  rw [if_neg (by decide)] at e
  match as, h with
  | [p, q], h => exact ⟨p, q, e, (Option.some.inj h).symm⟩
theorem RR.r13 {ns : List Int} {x : Cm05.Call} : RR 13 ns x → R13 ns x := by
  rintro ⟨as, hb, h, e⟩
  rw [if_neg (by decide)] at e
  match as, h with
  | [p], h => exact ⟨p, e, (Option.some.inj h).symm⟩
theorem RR.r14 {ns : List Int} {x : Cm05.Call} : RR 14 ns x → R14 ns x := by
  rintro ⟨as, hb, h, e⟩
  rw [if_neg (by decide)] at e
  match as, h with
  | [p, q], h => exact ⟨p, q, e, (Option.some.inj h).symm⟩
theorem RR.r15 {ns : List Int} {x : Cm05.Call} : RR 15 ns x → R15 ns x := by
  rintro ⟨as, hb, h, e⟩
  rw [if_neg (by decide)] at e
  match as, h with
  | [p, r, a, s, b], h => exact ⟨p, r, a, s, b, e, (Option.some.inj h).symm⟩
theorem RR.r16 {ns : List Int} {x : Cm05.Call} : RR 16 ns x → R16 ns x := by
  rintro ⟨as, hb, h, e⟩
  rw [if_neg (by decide)] at e
  match as, h with
  | [p, r, a, s, b], h => exact ⟨p, r, a, s, b, e, hb p (by simp), hb r (by simp), hb a (by simp), hb s (by simp), hb b (by simp), (Option.some.inj h).symm⟩
theorem RR.r17 {ns : List Int} {x : Cm05.Call} : RR 17 ns x → R17 ns x := by
  rintro ⟨as, hb, h, e⟩
  rw [if_neg (by decide)] at e
  match as, h with
  | [p, r, a, s, b], h => exact ⟨p, r, a, s, b, e, hb p (by simp), hb r (by simp), hb a (by simp), hb s (by simp), hb b (by simp), (Option.some.inj h).symm⟩
/-! what is still to be answered -/
def PL : List Nat := [1, 4, 4, 1, 1, 2, 2, 3, 3, 3, 3, 3, 2, 1, 2, 5, 5, 5]
theorem shape_some {p : Int} {n k : Nat} (h : PyCm05.shape p = some (n, k)) : ∃ i : Nat, i < 18 ∧ p = (i : Int) ∧ PL[i]? = some n ∧ k = if i = 3 then 1 else 0 := by
  have hp : p = 0 ∨ p = 1 ∨ p = 2 ∨ p = 3 ∨ p = 4 ∨ p = 5 ∨ p = 6 ∨ p = 7 ∨ p = 8 ∨ p = 9 ∨ p = 10 ∨ p = 11 ∨ p = 12 ∨ p = 13 ∨ p = 14 ∨ p = 15 ∨ p = 16 ∨ p = 17 := by
    apply Classical.byContradiction
    intro c
    simp only [not_or] at c
    obtain ⟨c0, c1, c2, c3, c4, c5, c6, c7, c8, c9, c10, c11, c12, c13, c14, c15, c16, c17⟩ := c
    unfold PyCm05.shape at h
    rw [if_neg c0, if_neg c1, if_neg c2, if_neg c3, if_neg c4, if_neg c5, if_neg c6, if_neg c7, if_neg c8, if_neg c9, if_neg c10, if_neg c11, if_neg c12, if_neg c13, if_neg c14, if_neg c15, if_neg c16, if_neg c17] at h
    cases h
  rcases hp with rfl | rfl | rfl | rfl | rfl | rfl | rfl | rfl | rfl | rfl | rfl | rfl | rfl | rfl | rfl | rfl | rfl | rfl
  all_goals (obtain ⟨e1, e2⟩ := Prod.mk.inj (Option.some.inj h); subst e1 e2)
  · exact ⟨0, by decide, rfl, rfl, rfl⟩
  · exact ⟨1, by decide, rfl, rfl, rfl⟩
  · exact ⟨2, by decide, rfl, rfl, rfl⟩
  · exact ⟨3, by decide, rfl, rfl, rfl⟩
  · exact ⟨4, by decide, rfl, rfl, rfl⟩
  · exact ⟨5, by decide, rfl, rfl, rfl⟩
  · exact ⟨6, by decide, rfl, rfl, rfl⟩
  · exact ⟨7, by decide, rfl, rfl, rfl⟩
  · exact ⟨8, by decide, rfl, rfl, rfl⟩
  · exact ⟨9, by decide, rfl, rfl, rfl⟩
  · exact ⟨10, by decide, rfl, rfl, rfl⟩
  · exact ⟨11, by decide, rfl, rfl, rfl⟩
  · exact ⟨12, by decide, rfl, rfl, rfl⟩
  · exact ⟨13, by decide, rfl, rfl, rfl⟩
  · exact ⟨14, by decide, rfl, rfl, rfl⟩
  · exact ⟨15, by decide, rfl, rfl, rfl⟩
  · exact ⟨16, by decide, rfl, rfl, rfl⟩
  · exact ⟨17, by decide, rfl, rfl, rfl⟩
theorem whole_plain {i n : Nat} {ys : List Int} (hn : PL[i]? = some n) (h3 : i ≠ 3) (hl : ys.length = n) : PyCm05.whole [(i : Int) :: ys] = [(i : Int) :: ys] := by
  have hi : i < 18 := (List.getElem?_eq_some_iff.mp hn).1
  have : i = 0 ∨ i = 1 ∨ i = 2 ∨ i = 4 ∨ i = 5 ∨ i = 6 ∨ i = 7 ∨ i = 8 ∨ i = 9 ∨ i = 10 ∨ i = 11 ∨ i = 12 ∨ i = 13 ∨ i = 14 ∨ i = 15 ∨ i = 16 ∨ i = 17 := by omega
  rcases this with rfl | rfl | rfl | rfl | rfl | rfl | rfl | rfl | rfl | rfl | rfl | rfl | rfl | rfl | rfl | rfl | rfl
  all_goals (have hn := Option.some.inj hn; subst hn)
  · match ys, hl with | [_], _ => rfl
  · match ys, hl with | [_, _, _, _], _ => rfl
  · match ys, hl with | [_, _, _, _], _ => rfl
  · match ys, hl with | [_], _ => rfl
  · match ys, hl with | [_, _], _ => rfl
  · match ys, hl with | [_, _], _ => rfl
  · match ys, hl with | [_, _, _], _ => rfl
  · match ys, hl with | [_, _, _], _ => rfl
  · match ys, hl with | [_, _, _], _ => rfl
  · match ys, hl with | [_, _, _], _ => rfl
  · match ys, hl with | [_, _, _], _ => rfl
  · match ys, hl with | [_, _], _ => rfl
  · match ys, hl with | [_], _ => rfl
  · match ys, hl with | [_, _], _ => rfl
  · match ys, hl with | [_, _, _, _, _], _ => rfl
  · match ys, hl with | [_, _, _, _, _], _ => rfl
  · match ys, hl with | [_, _, _, _, _], _ => rfl
theorem nat_all {l : List Int} (h : l.all Cm05Neutral.nat = true) : zs (l.map Int.toNat) = l ∧ ∀ y ∈ l.map Int.toNat, y < 2 ^ 32 := by
  induction l with
  | nil => exact ⟨rfl, fun y hy => by cases hy⟩
  | cons z r ih =>
    rw [List.all_cons, Bool.and_eq_true] at h
    obtain ⟨h1, h2⟩ := h
    obtain ⟨i1, i2⟩ := ih h2
    unfold Cm05Neutral.nat at h1
    rw [Bool.and_eq_true, decide_eq_true_eq, decide_eq_true_eq] at h1
    refine ⟨?_, fun y hy => ?_⟩
    · show ((z.toNat : Nat) : Int) :: zs (r.map Int.toNat) = z :: r
      rw [i1, Int.toNat_of_nonneg h1.1]
    · rcases List.mem_cons.mp hy with rfl | hy
      · omega
      · exact i2 y hy
theorem callOf_some {l : List Int} (h : Cm05Neutral.asked1 l = true) : ∃ x, Cm05Neutral.callOf l = some x ∧ l.all Cm05Neutral.nat = true ∧ Cm05Neutral.callIn (l.map Int.toNat) = some x := by
  unfold Cm05Neutral.asked1 at h
  cases e : Cm05Neutral.callOf l with
  | none => rw [e] at h; cases h
  | some x =>
    refine ⟨x, rfl, ?_⟩
    unfold Cm05Neutral.callOf at e
    cases ha : l.all Cm05Neutral.nat with
    | false => rw [ha, if_pos rfl] at e; cases e
    | true => rw [ha, if_neg (by decide)] at e; exact ⟨rfl, e⟩

def playF (s : Cm05.St) (c : List (List Int)) : Cm05.St × List Int := Cm05Neutral.step s (c.headD [])
def Todo (ns : List Int) (m : Cm05.St) (out : List Int) : Prop := ∃ f raw, PyFlat.calls PyCm05.shape f ns = some raw ∧ PyInside.calls PyCm05.bound raw = true ∧
  (∀ c ∈ raw, Cm05Neutral.asked1 ((PyCm05.whole c).headD []) = true) ∧ out = PyFlat.told (PyFlat.played playF m (raw.map PyCm05.whole))
theorem todo_nil {m : Cm05.St} {out : List Int} (h : Todo [] m out) : out = [] := by
  obtain ⟨f, raw, h1, _, _, h4⟩ := h
  have e : raw = [] := by
    cases f <;> exact (Option.some.inj h1).symm
  subst e
  exact h4
theorem step_eq {m : Cm05.St} {l : List Int} {x : Cm05.Call} (h : Cm05Neutral.callOf l = some x) : Cm05Neutral.step m l = Cm05.step m x := by
  unfold Cm05Neutral.step
  rw [h]
theorem todo_cons {p : Int} {r : List Int} {m : Cm05.St} {out : List Int} (h : Todo (p :: r) m out) : ∃ (i n e : Nat) (x : Cm05.Call) (out' : List Int), p = (i : Int) ∧ i < 18 ∧ PL[i]? = some n ∧ e ≤ r.length ∧
    (if i = 3 then ∃ k : Nat, r[n]? = some (k : Int) ∧ e = n + 1 + k else e = n) ∧ RR i (r.take e) x ∧ Todo (r.drop e) (Cm05.step m x).1 out' ∧ out = ((Cm05.step m x).2.length : Int) :: ((Cm05.step m x).2 ++ out') := by
  obtain ⟨f, raw, h1, h2, h3, h4⟩ := h
  cases f with
  | zero => cases h1
  | succ f =>
    unfold PyFlat.calls at h1
    cases hc : PyFlat.call PyCm05.shape (p :: r) with
    | none => rw [hc] at h1; cases h1
    | some ct =>
      obtain ⟨c, t⟩ := ct
      rw [hc] at h1
      replace h1 : (match PyFlat.calls PyCm05.shape f t with | none => none | some cs => some (c :: cs)) = some raw := h1
      cases hcs : PyFlat.calls PyCm05.shape f t with
      | none => rw [hcs] at h1; cases h1
      | some cs =>
        rw [hcs] at h1
        have h1 := (Option.some.inj h1).symm
        subst h1
        unfold PyFlat.call at hc
        dsimp only at hc
        cases hs : PyCm05.shape p with
        | none => rw [hs] at hc; cases hc
        | some nk =>
          obtain ⟨n, k⟩ := nk
          rw [hs] at hc
          obtain ⟨i, hi, rfl, hn, hk⟩ := shape_some hs
          replace hc : (if r.length < n then none else match PyFlat.rows k (r.drop n) with | none => none | some (xs, t) => some (((i : Int) :: r.take n) :: xs, t)) = some (c, t) := hc
          by_cases hl : r.length < n
          · rw [if_pos hl] at hc; cases hc
          rw [if_neg hl] at hc
          have hin : PyInside.call PyCm05.bound c = true ∧ PyInside.calls PyCm05.bound cs = true := by
            unfold PyInside.calls at h2 ⊢
            rw [List.all_cons, Bool.and_eq_true] at h2
            exact h2
          obtain ⟨x, hx, hall, hci⟩ := callOf_some (h3 c (by simp))
          have fin : ∀ e, t = r.drop e → Todo (r.drop e) (Cm05.step m x).1 (PyFlat.told (PyFlat.played playF (Cm05.step m x).1 (cs.map PyCm05.whole))) ∧ out = ((Cm05.step m x).2.length : Int) :: ((Cm05.step m x).2 ++ PyFlat.told (PyFlat.played playF (Cm05.step m x).1 (cs.map PyCm05.whole))) := fun e et => by
            subst et
            refine ⟨⟨f, cs, hcs, hin.2, fun d hd => h3 d (List.mem_cons_of_mem _ hd), rfl⟩, ?_⟩
            rw [h4, List.map_cons]
            have e1 : playF m (PyCm05.whole c) = Cm05.step m x := step_eq hx
            show PyFlat.told ((playF m (PyCm05.whole c)).2 :: PyFlat.played playF (playF m (PyCm05.whole c)).1 (cs.map PyCm05.whole)) = _
            rw [e1]
            rfl
          by_cases h3' : i = 3
          · subst h3'
            have hn : 1 = n := Option.some.inj hn
            subst hn
            rw [if_pos rfl] at hk
            subst hk
            match r, hl, hc, fin with
            | [], hl, _, _ => exact absurd (by decide : ([] : List Int).length < 1) hl
            | [x0], _, hc, _ => cases hc
            | x0 :: q :: s, _, hc, fin =>
              replace hc : (match (match PyFlat.row (q :: s) with | none => none | some (x, s) => match PyFlat.rows 0 s with | none => none | some (xs, t) => some (x :: xs, t)) with | none => none | some (xs, t) => some (([((3 : Nat) : Int), x0]) :: xs, t)) = some (c, t) := hc
              unfold PyFlat.row at hc
              by_cases hq : 0 ≤ q ∧ q.toNat ≤ s.length
              · simp only [hq, and_self, if_true, PyFlat.rows] at hc
                obtain ⟨e1, e2⟩ := Prod.mk.inj (Option.some.inj hc)
                subst e1 e2
                have hlen : (s.take q.toNat).length = q.toNat := by
                  rw [List.length_take]
                  omega
                have h12 : q.toNat ≤ 12 := by
                  have z := hin.1
                  have z : (PyInside.each _ [x0] && PyInside.lists [(0, 4294967295, 0, 12)] [s.take q.toNat]) = true := z
                  rw [Bool.and_eq_true] at z
                  have z := z.2
                  unfold PyInside.lists at z
                  simp only [Bool.and_eq_true, decide_eq_true_eq] at z
                  have := z.1.1.2
                  omega
                replace hall : ((3 : Int) :: x0 :: s.take q.toNat).all Cm05Neutral.nat = true := hall
                replace hci : Cm05Neutral.callIn (((3 : Int) :: x0 :: s.take q.toNat).map Int.toNat) = some x := hci
                have na := nat_all (l := x0 :: s.take q.toNat) (by rw [List.all_cons, Bool.and_eq_true] at hall; exact hall.2)
                obtain ⟨f1, f2⟩ := fin (2 + q.toNat) (by rw [show 2 + q.toNat = q.toNat + 1 + 1 by omega]; rfl)
                refine ⟨3, 1, 2 + q.toNat, x, _, rfl, by decide, rfl, ?_, ?_, ⟨(x0 :: s.take q.toNat).map Int.toNat, na.2, hci, ?_⟩, f1, f2⟩
                · show 2 + q.toNat ≤ s.length + 2
                  omega
                · rw [if_pos rfl]
                  exact ⟨q.toNat, by show some q = _; rw [Int.toNat_of_nonneg hq.1], by omega⟩
                · rw [if_pos rfl]
                  refine ⟨x0.toNat, (s.take q.toNat).map Int.toNat, rfl, by rw [List.length_map, hlen]; exact h12, ?_⟩
                  rw [show 2 + q.toNat = q.toNat + 1 + 1 by omega]
                  have e3 := na.1
                  rw [List.map_cons] at e3
                  have e4 := List.cons.inj e3
                  show x0 :: q :: s.take q.toNat = ((x0.toNat : Nat) : Int) :: ((((s.take q.toNat).map Int.toNat).length : Nat) : Int) :: zs ((s.take q.toNat).map Int.toNat)
                  have e5 : ((x0.toNat : Nat) : Int) = x0 := e4.1
                  have e6 : zs ((s.take q.toNat).map Int.toNat) = s.take q.toNat := e4.2
                  rw [e5, e6, List.length_map, hlen, Int.toNat_of_nonneg hq.1]
              · simp only [hq, if_false] at hc
                cases hc
          · rw [if_neg h3'] at hk
            subst hk
            have hc : some ([(i : Int) :: r.take n], r.drop n) = some (c, t) := hc
            obtain ⟨e1, e2⟩ := Prod.mk.inj (Option.some.inj hc)
            subst e1 e2
            have hln : (r.take n).length = n := by
              rw [List.length_take]
              omega
            rw [whole_plain hn h3' hln] at hall hci
            replace hall : ((i : Int) :: r.take n).all Cm05Neutral.nat = true := hall
            replace hci : Cm05Neutral.callIn ((((i : Int) :: r.take n)).map Int.toNat) = some x := hci
            have na := nat_all (l := r.take n) (by rw [List.all_cons, Bool.and_eq_true] at hall; exact hall.2)
            obtain ⟨f1, f2⟩ := fin n rfl
            refine ⟨i, n, n, x, _, rfl, hi, hn, by omega, by rw [if_neg h3'], ⟨(r.take n).map Int.toNat, na.2, ?_, ?_⟩, f1, f2⟩
            · rw [List.map_cons, Int.toNat_natCast] at hci
              exact hci
            · rw [if_neg h3']
              exact na.1.symm
/-- at the beginning -/
theorem todo_start {l : List Int} (h : PyCm05.answers_asked l = true) : Todo l Cm05.init (PyCm05.answers l) ∧ (PyCm05.answers l).length ≤ 10000000 := by
  unfold PyCm05.answers_asked at h
  cases e : PyFlat.calls PyCm05.shape l.length l with
  | none => rw [e] at h; cases h
  | some raw =>
    rw [e] at h
    simp only [Bool.and_eq_true] at h
    obtain ⟨⟨⟨⟨h1, h2⟩, h3⟩, h4⟩, h5⟩ := h
    refine ⟨⟨l.length, raw, e, h3, fun c hc => ?_, ?_⟩, ?_⟩
    · unfold Cm05Neutral.asked at h4
      rw [Bool.and_eq_true, List.all_eq_true] at h4
      exact h4.1 _ (List.mem_map.mpr ⟨_, List.mem_map.mpr ⟨c, hc, rfl⟩, rfl⟩)
    · unfold PyCm05.answers PyCm05.calls
      rw [e]
      rfl
    · unfold PyFlat.short at h5
      exact of_decide_eq_true h5
end Wt
/-! Chains by their words: the word after k turns is a sum of binomials; chains of one length with the same words are the same. -/
namespace Wt
open Cm05 (normal choose total)

/-- a list's numbers, each so often -/
def G : List Nat → (Nat → Nat) → Nat
  | [], _ => 0
  | x :: a, f => x * f 0 + G a fun i => f (i + 1)
theorem G_congr : ∀ (a : List Nat) {f g : Nat → Nat}, (∀ i, i < a.length → f i = g i) → G a f = G a g
  | [], _, _, _ => rfl
  | x :: a, f, g, h => by
    show x * f 0 + G a (fun i => f (i + 1)) = x * g 0 + G a (fun i => g (i + 1))
    rw [h 0 (Nat.succ_pos _), G_congr a fun i hi => h (i + 1) (Nat.succ_lt_succ hi)]
theorem G_add : ∀ (a : List Nat) (f g : Nat → Nat), G a (fun i => f i + g i) = G a f + G a g
  | [], _, _ => rfl
  | x :: a, f, g => by
    show x * (f 0 + g 0) + G a (fun i => f (i + 1) + g (i + 1)) = x * f 0 + G a (fun i => f (i + 1)) + (x * g 0 + G a (fun i => g (i + 1)))
    rw [G_add a (fun i => f (i + 1)) (fun i => g (i + 1)), Nat.mul_add]
    omega
theorem G_mul : ∀ (a : List Nat) (f : Nat → Nat) (y : Nat), G a (fun i => y * f i) = y * G a f
  | [], _, _ => rfl
  | x :: a, f, y => by
    show x * (y * f 0) + G a (fun i => y * f (i + 1)) = y * (x * f 0 + G a (fun i => f (i + 1)))
    rw [G_mul a (fun i => f (i + 1)) y, Nat.mul_add, Nat.mul_left_comm]
theorem G_zero : ∀ (a : List Nat) {f : Nat → Nat}, (∀ i, f i = 0) → G a f = 0
  | [], _, _ => rfl
  | x :: a, f, h => by
    show x * f 0 + G a (fun i => f (i + 1)) = 0
    rw [h 0, G_zero a fun i => h (i + 1), Nat.mul_zero]
theorem G_append : ∀ (a b : List Nat) (f : Nat → Nat), G (a ++ b) f = G a f + G b (fun i => f (i + a.length))
  | [], b, f => by
    show G b f = 0 + G b f
    omega
  | x :: a, b, f => by
    show x * f 0 + G (a ++ b) (fun i => f (i + 1)) = x * f 0 + G a (fun i => f (i + 1)) + G b (fun i => f (i + (a.length + 1)))
    rw [G_append a b]
    have e : (fun i => f (i + a.length + 1)) = fun i => f (i + (a.length + 1)) := rfl
    rw [e]
    omega
theorem G_zip : ∀ (a : List Nat) (n : Nat) (f : Nat → Nat), total ((a.zipIdx n).map fun x => x.1 * f x.2) = G a (fun i => f (i + n))
  | [], n, f => rfl
  | x :: a, n, f => by
    rw [List.zipIdx_cons, List.map_cons, total_cons, G_zip a (n + 1) f]
    show x * f n + _ = x * f (0 + n) + _
    rw [Nat.zero_add]
    congr 1
    exact G_congr a fun i _ => by
      show f (i + (n + 1)) = f (i + 1 + n)
      rw [Nat.add_assoc, Nat.add_comm 1 n]
/-- the word after k turns, as it grows -/
def W (c : List Nat) (k : Nat) : Nat := G c (choose k)
theorem at_W (M : Nat) (c : List Nat) (k : Nat) : Cm05.at_ M c k = W c k % M := by
  unfold Cm05.at_ W
  rw [G_zip c 0 (choose k)]
  rfl
theorem sum_W (M : Nat) (c : List Nat) (k : Nat) : Cm05.sum M c k = W (0 :: c) k % M := by
  unfold Cm05.sum W
  rw [G_zip c 0 (fun i => choose k (i + 1))]
  show _ = (0 * choose k 0 + G c (fun i => choose k (i + 1))) % M
  rw [Nat.zero_mul, Nat.zero_add]
theorem choose_zero (k : Nat) : choose k 0 = 1 := rfl
theorem choose_self (k : Nat) : choose k k = 1 := by rw [choose_eq, binom_self]
theorem W_nil (k : Nat) : W [] k = 0 := rfl
theorem W_start (c : List Nat) : W c 0 = c.headD 0 := by
  cases c with
  | nil => rfl
  | cons x a =>
    show x * choose 0 0 + G a (fun i => choose 0 (i + 1)) = x
    rw [G_zero a fun i => choose_over (Nat.succ_pos i), choose_zero]
    omega
/-- a turn -/
theorem W_turn (c : List Nat) (k : Nat) : W c (k + 1) = W c k + W c.tail k := by
  cases c with
  | nil => rfl
  | cons x a =>
    show x * choose (k + 1) 0 + G a (fun i => choose (k + 1) (i + 1)) = x * choose k 0 + G a (fun i => choose k (i + 1)) + G a (choose k)
    rw [G_congr a (f := fun i => choose (k + 1) (i + 1)) (g := fun i => choose k i + choose k (i + 1)) fun i _ => choose_pascal k i, G_add]
    show x * 1 + _ = x * 1 + _ + _
    have e : G a (choose k) = G a (fun i => choose k i) := rfl
    rw [e]
    omega

/-! chains that are the same modulo M -/
theorem G_mod {M : Nat} : ∀ {a b : List Nat} (f : Nat → Nat), a.length = b.length → (∀ i, i < a.length → a.getD i 0 % M = b.getD i 0 % M) → G a f % M = G b f % M
  | [], [], _, _, _ => rfl
  | [], _ :: _, _, h, _ => by cases h
  | _ :: _, [], _, h, _ => by cases h
  | x :: a, y :: b, f, h, hm => by
    have h0 : x % M = y % M := hm 0 (Nat.succ_pos _)
    have ih := G_mod (a := a) (b := b) (fun i => f (i + 1)) (Nat.succ.inj h) fun i hi => hm (i + 1) (Nat.succ_lt_succ hi)
    show (x * f 0 + G a _) % M = (y * f 0 + G b _) % M
    rw [Nat.add_mod, ih, ← Nat.add_mod, Nat.add_mod, Nat.mul_mod x, h0, ← Nat.mul_mod, ← Nat.add_mod]
theorem W_mod {M : Nat} (c : List Nat) (k : Nat) : W (c.map (· % M)) k % M = W c k % M := by
  refine G_mod _ (by rw [List.length_map]) fun i hi => ?_
  rw [List.length_map] at hi
  rw [List.getD_eq_getElem?_getD, List.getD_eq_getElem?_getD, List.getElem?_map, List.getElem?_eq_getElem hi]
  exact Nat.mod_mod _ _
/-- the word after k turns by the first k words and the next -/
theorem W_split {c : List Nat} {k : Nat} (h : k < c.length) : W c k = W (c.take k) k + c[k] := by
  have e : c = c.take k ++ c[k] :: c.drop (k + 1) := by
    rw [← List.drop_eq_getElem_cons h, List.take_append_drop]
  have el : (c.take k).length = k := by rw [List.length_take]; omega
  show G c (choose k) = _
  rw (occs := .pos [1]) [e]
  rw [G_append, el]
  show G (c.take k) (choose k) + (c[k] * choose k (0 + k) + G (c.drop (k + 1)) (fun i => choose k (i + 1 + k))) = _
  rw [Nat.zero_add, choose_self, G_zero (c.drop (k + 1)) fun i => choose_over (by omega), Nat.mul_one, Nat.add_zero]
  rfl
theorem W_uniq {M : Nat} {c d : List Nat} (hl : c.length = d.length) (hc : ∀ x ∈ c, x < M) (hd : ∀ x ∈ d, x < M) (h : ∀ k, k < c.length → W c k % M = W d k % M) : c = d := by
  have key : ∀ j, j ≤ c.length → c.take j = d.take j := by
    intro j
    induction j with
    | zero => intro _; rfl
    | succ j ih =>
      intro hj
      have ih := ih (by omega)
      have hcj : j < c.length := by omega
      have hdj : j < d.length := by omega
      have e := h j hcj
      rw [W_split hcj, W_split hdj, ih] at e
      have e2 : c[j] % M = d[j] % M := by
        have e1 : (c[j] + W (d.take j) j) % M = (d[j] + W (d.take j) j) % M := by
          rw [Nat.add_comm, e, Nat.add_comm]
        have e3 : (((c[j] + W (d.take j) j : Nat) : Int)) % (M : Int) = (((d[j] + W (d.take j) j : Nat)) : Int) % (M : Int) := by
          rw [← Int.natCast_emod, ← Int.natCast_emod, e1]
        rw [Int.emod_eq_emod_iff_emod_sub_eq_zero] at e3
        have e4 : ((c[j] : Nat) : Int) % (M : Int) = ((d[j] : Nat) : Int) % (M : Int) := by
          rw [Int.emod_eq_emod_iff_emod_sub_eq_zero, ← e3]
          congr 1
          omega
        rw [← Int.natCast_emod, ← Int.natCast_emod] at e4
        exact Int.ofNat.inj e4
      rw [Nat.mod_eq_of_lt (hc _ (List.getElem_mem hcj)), Nat.mod_eq_of_lt (hd _ (List.getElem_mem hdj))] at e2
      rw [List.take_add_one, List.take_add_one, ih, List.getElem?_eq_getElem hcj, List.getElem?_eq_getElem hdj, e2]
  have := key c.length (Nat.le_refl _)
  rw [List.take_length, hl, List.take_length] at this
  exact this

/-! ahead -/
def aheadN (c : List Nat) (d : Nat) : List Nat := (List.range c.length).map fun j => W (c.drop j) d
theorem turn_lists : ∀ (c e : List Nat) (f : Nat → Nat), c.length = e.length → (∀ j, j < c.length → e.getD j 0 = c.getD j 0 + c.getD (j + 1) 0) → G e f = G c f + G c.tail f
  | [], [], _, _, _ => rfl
  | [], _ :: _, _, h, _ => by cases h
  | _ :: _, [], _, h, _ => by cases h
  | x :: c, y :: e, f, h, hj => by
    have h0 : y = x + (x :: c).getD 1 0 := hj 0 (Nat.succ_pos _)
    have ih := turn_lists c e (fun i => f (i + 1)) (Nat.succ.inj h) fun j hh => hj (j + 1) (Nat.succ_lt_succ hh)
    show y * f 0 + G e _ = x * f 0 + G c _ + G c f
    rw [ih, h0]
    cases c with
    | nil =>
      show (x + 0) * f 0 + (0 + 0) = x * f 0 + 0 + 0
      rfl
    | cons z c =>
      show (x + z) * f 0 + (G (z :: c) (fun i => f (i + 1)) + G c (fun i => f (i + 1))) = x * f 0 + G (z :: c) (fun i => f (i + 1)) + (z * f 0 + G c (fun i => f (i + 1)))
      rw [Nat.add_mul]
      omega
theorem aheadN_length (c : List Nat) (d : Nat) : (aheadN c d).length = c.length := by
  unfold aheadN
  rw [List.length_map, List.length_range]
theorem aheadN_get (c : List Nat) (d j : Nat) : (aheadN c d).getD j 0 = W (c.drop j) d := by
  unfold aheadN
  rw [List.getD_eq_getElem?_getD, List.getElem?_map]
  by_cases h : j < c.length
  · rw [List.getElem?_range h]
    rfl
  · rw [List.getElem?_eq_none (by simpa using h), List.drop_of_length_le (by omega)]
    rfl
theorem W_ahead : ∀ (c : List Nat) (d k : Nat), W (aheadN c d) k = W c (k + d)
  | c, 0, k => by
    have e : aheadN c 0 = c := by
      refine List.ext_getElem (aheadN_length c 0) fun i h1 h2 => ?_
      have h := aheadN_get c 0 i
      rw [List.getD_eq_getElem?_getD, List.getElem?_eq_getElem h1, W_start, List.drop_eq_getElem_cons h2] at h
      exact h
    rw [e]
    rfl
  | c, d + 1, k => by
    have e : W (aheadN c (d + 1)) k = W (aheadN c d) k + W (aheadN c d).tail k := by
      refine turn_lists (aheadN c d) (aheadN c (d + 1)) (choose k) (by rw [aheadN_length, aheadN_length]) fun j hj => ?_
      rw [aheadN_get, aheadN_get, aheadN_get, W_turn, List.tail_drop]
    rw [e, ← W_turn, W_ahead c d (k + 1)]
    congr 1
    omega
theorem total_range : ∀ (c : List Nat) (f : Nat → Nat), total ((List.range c.length).map fun i => c.getD i 0 * f i) = G c f
  | [], f => rfl
  | x :: c, f => by
    rw [List.length_cons, List.range_succ_eq_map, List.map_cons, total_cons, List.map_map]
    show x * f 0 + total ((List.range c.length).map fun i => c.getD i 0 * f (i + 1)) = _
    rw [total_range c fun i => f (i + 1)]
    rfl
theorem G_from : ∀ (c : List Nat) (j : Nat) (f : Nat → Nat), G c (fun i => if j ≤ i then f (i - j) else 0) = G (c.drop j) f
  | c, 0, f => by
    rw [List.drop_zero]
    exact G_congr c fun i _ => by rw [if_pos (Nat.zero_le _), Nat.sub_zero]
  | [], j + 1, f => rfl
  | x :: c, j + 1, f => by
    show x * (if j + 1 ≤ 0 then f (0 - (j + 1)) else 0) + G c (fun i => if j + 1 ≤ i + 1 then f (i + 1 - (j + 1)) else 0) = G (c.drop j) f
    rw [if_neg (by omega), Nat.mul_zero, Nat.zero_add, ← G_from c j f]
    refine G_congr c fun i _ => ?_
    by_cases h : j ≤ i
    · rw [if_pos h, if_pos (by omega)]
      congr 1
      omega
    · rw [if_neg h, if_neg (by omega)]
theorem ahead_eq (M : Nat) (c : List Nat) (d : Nat) : Cm05.ahead M c d = normal ((aheadN c d).map (· % M)) := by
  unfold Cm05.ahead aheadN
  rw [List.map_map]
  congr 1
  refine List.map_congr_left fun j _ => ?_
  show _ = W (c.drop j) d % M
  congr 1
  show _ = G (c.drop j) (choose d)
  rw [← G_from c j (choose d), ← total_range]
  congr 1
  refine List.map_congr_left fun i _ => ?_
  split
  · rfl
  · rw [Nat.mul_zero]

/-! chains from their first words -/
theorem differences_length (M : Nat) : ∀ l : List Nat, (Cm05.differences M l).length = l.length - 1
  | [] => rfl
  | [_] => rfl
  | a :: b :: l => by
    show (Cm05.differences M (b :: l)).length + 1 = _
    rw [differences_length M (b :: l)]
    rfl
theorem differences_get (M : Nat) : ∀ (l : List Nat) (i : Nat), i + 1 < l.length → (Cm05.differences M l).getD i 0 = (l.getD (i + 1) 0 + (M - l.getD i 0 % M)) % M
  | [], i, h => by cases h
  | [_], i, h => by
    simp at h
  | a :: b :: l, 0, h => rfl
  | a :: b :: l, i + 1, h => by
    have ih := differences_get M (b :: l) i (Nat.lt_of_succ_lt_succ h)
    exact ih
theorem newton_length (M : Nat) : ∀ (k : Nat) (l : List Nat), l.length = k → (Cm05.newton M k l).length = k
  | 0, _, _ => rfl
  | k + 1, [], h => by cases h
  | k + 1, a :: l, h => by
    show (Cm05.newton M k (Cm05.differences M (a :: l))).length + 1 = k + 1
    rw [newton_length M k _ (by rw [differences_length, h]; rfl)]
theorem W_newton {M : Nat} (hM : 0 < M) : ∀ (n : Nat) (l : List Nat), l.length = n → ∀ k, k < n → W (Cm05.newton M n l) k % M = l.getD k 0 % M
  | 0, _, _, k, hk => by cases hk
  | n + 1, [], h, _, _ => by cases h
  | n + 1, a :: l, h, k, hk => by
    have ih := W_newton hM n (Cm05.differences M (a :: l)) (by rw [differences_length, h]; rfl)
    induction k with
    | zero =>
      rw [W_start]
      rfl
    | succ k ihk =>
      have ihk := ihk (by omega)
      have i2 := ih k (by omega)
      rw [W_turn]
      show (W (Cm05.newton M (n + 1) (a :: l)) k + W (Cm05.newton M n (Cm05.differences M (a :: l))) k) % M = _
      rw [Nat.add_mod, ihk, i2, differences_get M (a :: l) k (by rw [h]; omega), Nat.mod_mod, ← Nat.add_mod]
      have lt := Nat.mod_lt ((a :: l).getD k 0) hM
      have e : (a :: l).getD k 0 + ((a :: l).getD (k + 1) 0 + (M - (a :: l).getD k 0 % M)) = (a :: l).getD (k + 1) 0 + M * ((a :: l).getD k 0 / M + 1) := by
        have d := Nat.div_add_mod ((a :: l).getD k 0) M
        rw [Nat.mul_add]
        omega
      rw [e, Nat.add_mul_mod_self_left]
end Wt
/-! Products of chains, and how soon all comes again. -/
namespace Wt
open Cm05 (normal choose total)

/-- how often the words i and j add to the word t of a product -/
def mm (t i j : Nat) : Nat := if j ≤ t then choose t i * choose i (t - j) else 0
theorem mm_spec (t i j : Nat) : (if i ≤ t ∧ j ≤ t ∧ t ≤ i + j then choose t i * choose i (t - j) else 0) = mm t i j := by
  unfold mm
  by_cases h : j ≤ t
  · rw [if_pos h]
    by_cases h1 : i ≤ t
    · by_cases h2 : t ≤ i + j
      · rw [if_pos ⟨h1, h, h2⟩]
      · rw [if_neg (fun z => h2 z.2.2), choose_over (k := i) (j := t - j) (by omega), Nat.mul_zero]
    · rw [if_neg (fun z => h1 z.1), choose_over (k := t) (j := i) (by omega), Nat.zero_mul]
  · rw [if_neg h, if_neg (fun z => h z.2.1)]
theorem mm00 (t : Nat) : mm (t + 1) 0 0 = 0 := by
  unfold mm
  rw [if_pos (Nat.zero_le _), choose_over (k := 0) (j := t + 1 - 0) (by omega), Nat.mul_zero]
theorem mm0s (t j : Nat) : mm (t + 1) 0 (j + 1) = mm t 0 j := by
  unfold mm
  by_cases h : j ≤ t
  · rw [if_pos h, if_pos (by omega), show t + 1 - (j + 1) = t - j by omega]
    rfl
  · rw [if_neg h, if_neg (by omega)]
theorem mms0 (t i : Nat) : mm (t + 1) (i + 1) 0 = mm t i 0 := by
  unfold mm
  rw [if_pos (Nat.zero_le _), if_pos (Nat.zero_le _), Nat.sub_zero, Nat.sub_zero, choose_pascal, choose_pascal]
  by_cases h : i = t
  · subst h
    rw [choose_over (k := i) (j := i + 1) (by omega), choose_self]
  · by_cases h2 : i < t
    · rw [choose_over (k := i) (j := t) h2, choose_over (k := i) (j := t + 1) (by omega)]
      simp
    · rw [choose_over (k := t) (j := i) (by omega), choose_over (k := t) (j := i + 1) (by omega)]
      simp
theorem mmss (t i j : Nat) : mm (t + 1) (i + 1) (j + 1) = mm t i (j + 1) + mm t (i + 1) j + mm t i j := by
  unfold mm
  by_cases h : j ≤ t
  · rw [if_pos (by omega : j + 1 ≤ t + 1), if_pos h, if_pos h, show t + 1 - (j + 1) = t - j by omega]
    by_cases h2 : j + 1 ≤ t
    · rw [if_pos h2, choose_pascal, show t - j = (t - (j + 1)) + 1 by omega, choose_pascal i (t - (j + 1)), Nat.add_mul, Nat.mul_add]
      omega
    · have e : t = j := by omega
      subst e
      rw [if_neg h2, Nat.sub_self, choose_pascal, choose_zero, choose_zero]
      omega
  · rw [if_neg (by omega : ¬ j + 1 ≤ t + 1), if_neg (by omega : ¬ j + 1 ≤ t), if_neg h, if_neg h]
/-- the word t of the product -/
def TT (a b : List Nat) (t : Nat) : Nat := G a fun i => G b fun j => mm t i j
theorem G_zeroF (a : List Nat) : G a (fun _ => 0) = 0 := G_zero a fun _ => rfl
theorem TT_succ (a b : List Nat) (t : Nat) : TT a b (t + 1) = TT a.tail b t + TT a b.tail t + TT a.tail b.tail t := by
  cases a with
  | nil => rfl
  | cons x a =>
    cases b with
    | nil =>
      show (x * 0 + G a (fun _ => 0)) = G a (fun _ => 0) + (x * 0 + G a (fun _ => 0)) + G a (fun _ => 0)
      rw [G_zeroF]
      omega
    | cons y b =>
      show x * (y * mm (t + 1) 0 0 + G b (fun j => mm (t + 1) 0 (j + 1))) + G a (fun i => y * mm (t + 1) (i + 1) 0 + G b (fun j => mm (t + 1) (i + 1) (j + 1)))
        = G a (fun i => y * mm t i 0 + G b (fun j => mm t i (j + 1))) + (x * G b (fun j => mm t 0 j) + G a (fun i => G b (fun j => mm t (i + 1) j))) + G a (fun i => G b (fun j => mm t i j))
      rw [mm00, Nat.mul_zero, Nat.zero_add, G_congr b fun j _ => mm0s t j]
      have e : G a (fun i => y * mm (t + 1) (i + 1) 0 + G b (fun j => mm (t + 1) (i + 1) (j + 1))) = G a (fun i => (y * mm t i 0 + G b (fun j => mm t i (j + 1))) + (G b (fun j => mm t (i + 1) j) + G b (fun j => mm t i j))) := by
        refine G_congr a fun i _ => ?_
        rw [mms0, G_congr b fun j _ => mmss t i j]
        rw [G_add b (fun j => mm t i (j + 1) + mm t (i + 1) j) (fun j => mm t i j), G_add b (fun j => mm t i (j + 1)) (fun j => mm t (i + 1) j)]
        omega
      rw [e, G_add a (fun i => y * mm t i 0 + G b (fun j => mm t i (j + 1))) (fun i => G b (fun j => mm t (i + 1) j) + G b (fun j => mm t i j)), G_add a (fun i => G b (fun j => mm t (i + 1) j)) (fun i => G b (fun j => mm t i j))]
      rw [show G b (mm t 0) = G b (fun j => mm t 0 j) from rfl]
      omega
theorem TT_zero (a b : List Nat) : TT a b 0 = W a 0 * W b 0 := by
  rw [W_start, W_start]
  have e0 : ∀ i j, mm 0 i (j + 1) = 0 := fun i j => by
    unfold mm
    rw [if_neg (by omega)]
  have e1 : ∀ i, mm 0 (i + 1) 0 = 0 := fun i => by
    unfold mm
    rw [if_pos (Nat.le_refl _), choose_over (k := 0) (j := i + 1) (by omega), Nat.zero_mul]
  cases a with
  | nil => exact (Nat.zero_mul _).symm
  | cons x a =>
    cases b with
    | nil =>
      show x * 0 + G a (fun _ => 0) = x * 0
      rw [G_zeroF]
      rfl
    | cons y b =>
      show x * (y * mm 0 0 0 + G b (fun j => mm 0 0 (j + 1))) + G a (fun i => y * mm 0 (i + 1) 0 + G b (fun j => mm 0 (i + 1) (j + 1))) = x * y
      rw [G_zero b fun j => e0 0 j, G_zero a fun i => by rw [e1, G_zero b fun j => e0 (i + 1) j, Nat.mul_zero]]
      show x * (y * 1 + 0) + 0 = x * y
      rw [Nat.mul_one, Nat.add_zero, Nat.add_zero]
def prod (a b : List Nat) (L : Nat) : List Nat := (List.range L).map (TT a b)
theorem prod_tail (a b : List Nat) (L : Nat) : (prod a b (L + 1)).tail = (List.range L).map fun t => TT a b (t + 1) := by
  unfold prod
  rw [List.range_succ_eq_map, List.map_cons, List.tail_cons, List.map_map]
  rfl
theorem G_map_add (L : Nat) (f g : Nat → Nat) (u : Nat → Nat) : G ((List.range L).map fun t => f t + g t) u = G ((List.range L).map f) u + G ((List.range L).map g) u := by
  induction L generalizing f g u with
  | zero => rfl
  | succ L ih =>
    rw [List.range_succ_eq_map, List.map_cons, List.map_cons, List.map_cons, List.map_map, List.map_map, List.map_map]
    show (f 0 + g 0) * u 0 + G ((List.range L).map fun t => f (t + 1) + g (t + 1)) (fun i => u (i + 1)) = f 0 * u 0 + G ((List.range L).map fun t => f (t + 1)) (fun i => u (i + 1)) + (g 0 * u 0 + G ((List.range L).map fun t => g (t + 1)) (fun i => u (i + 1)))
    rw [ih, Nat.add_mul]
    omega
theorem TT_over : ∀ (a b : List Nat) (t : Nat), a.length + b.length ≤ t + 1 → TT a b t = 0 := by
  intro a b t h
  cases ha : a with
  | nil => rfl
  | cons x a' =>
    cases hb : b with
    | nil =>
      show x * 0 + G a' (fun _ => 0) = 0
      rw [G_zeroF]
      rfl
    | cons y b' =>
      rw [← ha, ← hb]
      unfold TT
      have : ∀ i, i < a.length → G b (fun j => mm t i j) = 0 := fun i hi => by
        have e : G b (fun j => mm t i j) = G b (fun _ => 0) := by
          refine G_congr b fun j hj => ?_
          unfold mm
          split
          · rw [choose_over (k := i) (j := t - j) (by omega), Nat.mul_zero]
          · rfl
        rw [e, G_zeroF]
      rw [G_congr a this, G_zeroF]
theorem TT_nil (a : List Nat) (t : Nat) : TT a [] t = 0 := G_zeroF a
theorem W_prod_l (b : List Nat) (L k : Nat) : W (prod [] b L) k = 0 := by
  unfold prod W
  have : ∀ (L : Nat) (f : Nat → Nat), G ((List.range L).map (TT [] b)) f = 0 := by
    intro L
    induction L with
    | zero => intro f; rfl
    | succ L ih =>
      intro f
      rw [List.range_succ, List.map_append, G_append, ih]
      show 0 + (0 * _ + 0) = 0
      omega
  exact this L _
theorem W_prod_r (a : List Nat) (L k : Nat) : W (prod a [] L) k = 0 := by
  unfold prod W
  have : ∀ (L : Nat) (f : Nat → Nat), G ((List.range L).map (TT a [])) f = 0 := by
    intro L
    induction L with
    | zero => intro f; rfl
    | succ L ih =>
      intro f
      rw [List.range_succ, List.map_append, G_append, ih]
      show 0 + (TT a [] L * _ + 0) = 0
      rw [TT_nil]
      omega
  exact this L _
/-- the product's words are the products of the words -/
theorem W_prod : ∀ (k : Nat) (a b : List Nat) (L : Nat), a.length + b.length ≤ L + 1 → W (prod a b L) k = W a k * W b k
  | k, [], b, L, h => by rw [W_prod_l, W_nil, Nat.zero_mul]
  | k, x :: a, [], L, h => by rw [W_prod_r, W_nil, Nat.mul_zero]
  | k, x :: a, y :: b, 0, h => by simp at h; omega
  | 0, x :: a, y :: b, L + 1, h => by
    rw [W_start]
    unfold prod
    rw [List.range_succ_eq_map, List.map_cons]
    exact TT_zero (x :: a) (y :: b)
  | k + 1, x :: a, y :: b, L + 1, h => by
    have h' : a.length + b.length + 2 ≤ L + 2 := by
      simp at h
      omega
    rw [W_turn, W_prod k (x :: a) (y :: b) (L + 1) h, W_turn (x :: a), W_turn (y :: b)]
    have e : W (prod (x :: a) (y :: b) (L + 1)).tail k = W a k * W (y :: b) k + W (x :: a) k * W b k + W a k * W b k := by
      rw [prod_tail]
      have e1 : ((List.range L).map fun t => TT (x :: a) (y :: b) (t + 1)) = (List.range L).map fun t => (TT a (y :: b) t + TT (x :: a) b t) + TT a b t := List.map_congr_left fun t _ => TT_succ (x :: a) (y :: b) t
      rw [e1]
      show G _ (choose k) = _
      rw [G_map_add L (fun t => TT a (y :: b) t + TT (x :: a) b t) (fun t => TT a b t), G_map_add L (fun t => TT a (y :: b) t) (fun t => TT (x :: a) b t)]
      show W (prod a (y :: b) L) k + W (prod (x :: a) b L) k + W (prod a b L) k = _
      rw [W_prod k a (y :: b) L (by simp; omega), W_prod k (x :: a) b L (by simp; omega), W_prod k a b L (by omega)]
    rw [e, Nat.add_mul, Nat.mul_add, Nat.mul_add]
    show _ = W (x :: a) k * W (y :: b) k + W (x :: a) k * W b k + (W a k * W (y :: b) k + W a k * W b k)
    omega
theorem total_flat : ∀ (l : List (Nat × Nat)) (f : Nat × Nat → List Nat), total (l.flatMap f) = total (l.map fun x => total (f x))
  | [], f => rfl
  | x :: l, f => by
    rw [List.flatMap_cons, total_append, total_flat l f, List.map_cons, total_cons]
theorem times_eq (M : Nat) (a b : List Nat) : Cm05.times M a b = normal ((prod a b (a.length + b.length - 1)).map (· % M)) := by
  unfold Cm05.times prod
  rw [List.map_map]
  congr 1
  refine List.map_congr_left fun t _ => ?_
  show _ = TT a b t % M
  congr 1
  rw [total_flat]
  have e : ∀ x : Nat × Nat, total (b.zipIdx.map fun y => if x.2 ≤ t ∧ y.2 ≤ t ∧ t ≤ x.2 + y.2 then x.1 * y.1 * (choose t x.2 * choose x.2 (t - y.2)) else 0) = x.1 * G b (fun j => mm t x.2 j) := fun x => by
    rw [← G_mul]
    have e2 : (b.zipIdx.map fun y => if x.2 ≤ t ∧ y.2 ≤ t ∧ t ≤ x.2 + y.2 then x.1 * y.1 * (choose t x.2 * choose x.2 (t - y.2)) else 0) = b.zipIdx.map fun y => y.1 * (x.1 * mm t x.2 y.2) := by
      refine List.map_congr_left fun y _ => ?_
      rw [← mm_spec]
      split
      · rw [Nat.mul_comm x.1 y.1, Nat.mul_assoc]
      · rw [Nat.mul_zero, Nat.mul_zero]
    rw [e2, G_zip b 0 (fun j => x.1 * mm t x.2 j)]
    rfl
  rw [List.map_congr_left fun x _ => e x, G_zip a 0 (fun i => G b (fun j => mm t i j))]
  rfl
end Wt
/-! How soon all comes again. -/
namespace Wt
open Cm05 (normal choose total)

theorem choose_absorb (k j : Nat) : (j + 1) * choose (k + 1) (j + 1) = (k + 1) * choose k j := by
  rw [choose_pascal]
  by_cases h : j ≤ k
  · have a := binom_absorb k j
    rw [← choose_eq, ← choose_eq] at a
    rw [Nat.mul_add, a, Nat.mul_comm (j + 1), ← Nat.mul_add, Nat.mul_comm]
    congr 1
    omega
  · rw [choose_over (k := k) (j := j) (by omega), choose_over (k := k) (j := j + 1) (by omega)]
    simp
theorem dvd_choose {n j : Nat} (h : j < 7) : 2 ^ n ∣ choose (2 ^ (n + 2)) (j + 1) := by
  have hp : 0 < 2 ^ (n + 2) := Nat.two_pow_pos _
  have hk : 2 ^ (n + 2) = (2 ^ (n + 2) - 1) + 1 := by omega
  have d : 2 ^ (n + 2) ∣ (j + 1) * choose (2 ^ (n + 2)) (j + 1) := by
    have a := choose_absorb (2 ^ (n + 2) - 1) j
    rw [← hk] at a
    rw [a]
    exact Nat.dvd_mul_right _ _
  generalize choose (2 ^ (n + 2)) (j + 1) = B at d
  have odd : ∀ (x o : Nat), Nat.Coprime 2 o → 2 ^ x ∣ o * B → 2 ^ x ∣ B := fun x o ho hd => (Nat.Coprime.pow_left x ho).dvd_of_dvd_mul_left hd
  have e2 : 2 ^ (n + 2) = 4 * 2 ^ n := by rw [Nat.pow_add, Nat.mul_comm]
  have half : ∀ o, 2 ^ (n + 2) ∣ 2 * o * B → 2 ^ (n + 1) ∣ o * B := fun o hd => by
    rw [show n + 2 = (n + 1) + 1 from rfl, Nat.pow_succ, Nat.mul_comm _ 2, Nat.mul_assoc] at hd
    exact Nat.dvd_of_mul_dvd_mul_left (by decide) hd
  have up : ∀ x, n ≤ x → 2 ^ x ∣ B → 2 ^ n ∣ B := fun x hx hd => Nat.dvd_trans (Nat.pow_dvd_pow 2 hx) hd
  have : j = 0 ∨ j = 1 ∨ j = 2 ∨ j = 3 ∨ j = 4 ∨ j = 5 ∨ j = 6 := by omega
  rcases this with rfl | rfl | rfl | rfl | rfl | rfl | rfl
  · exact up _ (by omega) (odd (n + 2) 1 (by decide) d)
  · exact up _ (by omega) (odd (n + 1) 1 (by decide) (half 1 d))
  · exact up _ (by omega) (odd (n + 2) 3 (by decide) d)
  · have h1 := half 2 d
    rw [show n + 1 = n + 1 from rfl, Nat.pow_succ, Nat.mul_comm _ 2] at h1
    exact Nat.dvd_of_mul_dvd_mul_left (by decide) h1
  · exact up _ (by omega) (odd (n + 2) 5 (by decide) d)
  · exact up _ (by omega) (odd (n + 1) 3 (by decide) (half 3 d))
  · exact up _ (by omega) (odd (n + 2) 7 (by decide) d)
theorem G_dvd {M : Nat} : ∀ (a : List Nat) (f : Nat → Nat), (∀ i, i < a.length → M ∣ f i) → M ∣ G a f
  | [], _, _ => Nat.dvd_zero _
  | x :: a, f, h => by
    show M ∣ x * f 0 + G a _
    exact Nat.dvd_add (Nat.dvd_trans (h 0 (Nat.succ_pos _)) (Nat.dvd_mul_left _ _)) (G_dvd a _ fun i hi => h (i + 1) (Nat.succ_lt_succ hi))
theorem W_back {n : Nat} {c : List Nat} (h : c.length ≤ 8) : W c (2 ^ (n + 2)) % 2 ^ n = c.headD 0 % 2 ^ n := by
  cases c with
  | nil => rfl
  | cons x a =>
    show (x * choose (2 ^ (n + 2)) 0 + G a (fun i => choose (2 ^ (n + 2)) (i + 1))) % 2 ^ n = x % 2 ^ n
    have d : 2 ^ n ∣ G a (fun i => choose (2 ^ (n + 2)) (i + 1)) := G_dvd a _ fun i hi => dvd_choose (by simp at h; omega)
    rw [choose_zero, Nat.mul_one, Nat.add_mod, Nat.mod_eq_zero_of_dvd d, Nat.add_zero, Nat.mod_mod]
theorem map_self_mod {M : Nat} {c : List Nat} (h : ∀ x ∈ c, x < M) : c.map (· % M) = c := by
  induction c with
  | nil => rfl
  | cons x a ih =>
    rw [List.map_cons, ih fun y hy => h y (List.mem_cons_of_mem _ hy), Nat.mod_eq_of_lt (h x List.mem_cons_self)]
theorem ahead_back {n : Nat} {c : List Nat} (h : c.length ≤ 8) (hw : ∀ x ∈ c, x < 2 ^ n) : Cm05.ahead (2 ^ n) c (2 ^ (n + 2)) = normal c := by
  rw [ahead_eq]
  congr 1
  refine List.ext_getElem (by rw [List.length_map, aheadN_length]) fun i h1 h2 => ?_
  rw [List.getElem_map]
  have h3 : i < (aheadN c (2 ^ (n + 2))).length := by rw [aheadN_length]; exact h2
  have e := aheadN_get c (2 ^ (n + 2)) i
  rw [List.getD_eq_getElem?_getD, List.getElem?_eq_getElem h3] at e
  have e : (aheadN c (2 ^ (n + 2)))[i] = W (c.drop i) (2 ^ (n + 2)) := e
  rw [e, W_back (by rw [List.length_drop]; omega), List.drop_eq_getElem_cons h2]
  exact Nat.mod_eq_of_lt (hw _ (List.getElem_mem h2))
/-- the exponent: the least -/
theorem find_least {p : Nat → Bool} : ∀ (L : Nat), (∃ e, e < L ∧ p e = true) → ∃ e, (List.range L).find? p = some e ∧ e < L ∧ p e = true ∧ ∀ d, d < e → p d = false
  | 0, ⟨e, h, _⟩ => by cases h
  | L + 1, ⟨e, he, hp⟩ => by
    rw [List.range_succ, List.find?_append]
    by_cases hx : ∃ e, e < L ∧ p e = true
    · obtain ⟨d, h1, h2, h3, h4⟩ := find_least L hx
      refine ⟨d, ?_, by omega, h3, h4⟩
      rw [h1]
      rfl
    · have hn : (List.range L).find? p = none := by
        rw [List.find?_eq_none]
        intro x hxm hpx
        exact hx ⟨x, List.mem_range.mp hxm, hpx⟩
      have eL : e = L := by
        apply Classical.byContradiction
        intro hne
        exact hx ⟨e, by omega, hp⟩
      subst eL
      refine ⟨e, ?_, by omega, hp, fun d hd => ?_⟩
      · rw [hn]
        show List.find? p [e] = some e
        rw [List.find?_cons_of_pos hp]
      · cases hb : p d with
        | false => rfl
        | true => exact absurd ⟨d, hd, hb⟩ hx
theorem periodExp_least {n : Nat} {c : List Nat} (h : c.length ≤ 8) (hw : ∀ x ∈ c, x < 2 ^ n) (hn : normal c = c) :
    Cm05.periodExp n c ≤ n + 2 ∧ Cm05.ahead (2 ^ n) c (2 ^ Cm05.periodExp n c) = c ∧ ∀ e, e < Cm05.periodExp n c → Cm05.ahead (2 ^ n) c (2 ^ e) ≠ c := by
  have ab := ahead_back h hw
  obtain ⟨e, h1, h2, h3, h4⟩ := find_least (p := fun e => Cm05.ahead (2 ^ n) c (2 ^ e) == normal c) (n + 4) ⟨n + 2, by omega, beq_iff_eq.mpr ab⟩
  have ee : Cm05.periodExp n c = e := by
    unfold Cm05.periodExp
    rw [h1]
    rfl
  rw [ee]
  have h5 : ∀ d, d < e → Cm05.ahead (2 ^ n) c (2 ^ d) ≠ c := fun d hd z => by
    have := h4 d hd
    rw [hn] at this
    rw [z] at this
    simp at this
  refine ⟨?_, ?_, h5⟩
  · apply Nat.le_of_not_lt
    intro z
    exact h5 (n + 2) z (ab.trans hn)
  · have := beq_iff_eq.mp h3
    rw [hn] at this
    exact this
end Wt
/-! Where two rows of places meet. -/
namespace Wt
open Cm05 (firstZero firstIn ROUNDS)

def LeastZ (c s m : Nat) : Option Nat → Prop
  | none => ∀ i, (c + s * i) % m ≠ 0
  | some i => (c + s * i) % m = 0 ∧ ∀ j, j < i → (c + s * j) % m ≠ 0
theorem zero_hit {c s m i : Nat} (hm : 0 < m) (hc : c % m ≠ 0) : (c + s * i) % m = 0 ↔ Hit (s % m) m (m - c % m) (m - c % m) i := by
  unfold Hit
  have l := Nat.mod_lt c hm
  have l2 := Nat.mod_lt (s % m * i) hm
  have e : (c + s * i) % m = (c % m + s % m * i % m) % m := by
    rw [Nat.add_mod, Nat.mul_mod s i, Nat.mul_mod (s % m) i, Nat.mod_mod]
  rw [e]
  generalize s % m * i % m = r at l2 ⊢
  constructor
  · intro h
    have d := Nat.div_add_mod (c % m + r) m
    rw [h] at d
    have : (c % m + r) / m = 1 := by
      apply Nat.le_antisymm
      · apply Nat.le_of_lt_succ
        rw [Nat.div_lt_iff_lt_mul hm]
        omega
      · apply Nat.succ_le_of_lt
        apply Nat.pos_of_ne_zero
        intro z
        rw [z] at d
        omega
    rw [this] at d
    omega
  · intro h
    have : c % m + r = m := by omega
    rw [this, Nat.mod_self]
theorem firstZero_least {c s m : Nat} (hm : 0 < m) (h32 : m ≤ 2 ^ 32) : LeastZ c s m (firstZero c s m) := by
  unfold firstZero
  by_cases hc : c % m = 0
  · rw [if_pos hc]
    exact ⟨by rw [Nat.mul_zero, Nat.add_zero]; exact hc, fun j hj => absurd hj (Nat.not_lt_zero j)⟩
  · rw [if_neg hc]
    have l := Nat.mod_lt c hm
    have f := firstIn_least ROUNDS (s % m) m (m - c % m) (m - c % m) (enough_rounds h32) (Nat.mod_lt _ hm) (Nat.le_refl _) (by omega)
    cases e : firstIn ROUNDS (s % m) m (m - c % m) (m - c % m) with
    | none =>
      rw [e] at f
      exact fun i z => f i ((zero_hit hm hc).mp z)
    | some i =>
      rw [e] at f
      exact ⟨(zero_hit hm hc).mpr f.1, fun j hj z => f.2 j hj ((zero_hit hm hc).mp z)⟩
theorem leastZ_uniq {c s m : Nat} {o o' : Option Nat} (h : LeastZ c s m o) (h' : LeastZ c s m o') : o = o' := by
  cases o with
  | none => cases o' with
    | none => rfl
    | some k => exact absurd h'.1 (h k)
  | some j => cases o' with
    | none => exact absurd h.1 (h' j)
    | some k =>
      congr 1
      apply Nat.le_antisymm
      · exact Nat.le_of_not_lt fun c => h.2 k c h'.1
      · exact Nat.le_of_not_lt fun c => h'.2 j c h.1
theorem leastZ_lt {c s m i : Nat} (hm : 0 < m) (h : LeastZ c s m (some i)) : i < m := by
  apply Nat.lt_of_not_le
  intro z
  refine h.2 (i % m) (Nat.lt_of_lt_of_le (Nat.mod_lt _ hm) z) ?_
  have e : (c + s * (i % m)) % m = (c + s * i) % m := by
    rw [Nat.add_mod, Nat.mul_mod s (i % m), Nat.mod_mod, ← Nat.mul_mod, ← Nat.add_mod]
  rw [e]
  exact h.1
/-- all zeros, from the least on -/
theorem zeros_iff {c s m i0 : Nat} (hm : 0 < m) (h : LeastZ c s m (some i0)) (i : Nat) : (c + s * i) % m = 0 ↔ ∃ x, i = i0 + x * (m / Nat.gcd s m) := by
  have hg : 0 < Nat.gcd s m := Nat.gcd_pos_of_pos_right s hm
  have gs : Nat.gcd s m ∣ s := Nat.gcd_dvd_left s m
  have gm : Nat.gcd s m ∣ m := Nat.gcd_dvd_right s m
  have h0 := h.1
  constructor
  · intro hi
    have hle : i0 ≤ i := Nat.le_of_not_lt fun z => h.2 i z hi
    have d : m ∣ s * (i - i0) := by
      have d1 := Nat.dvd_of_mod_eq_zero hi
      have d2 := Nat.dvd_of_mod_eq_zero h0
      have e : s * (i - i0) = (c + s * i) - (c + s * i0) := by
        rw [Nat.mul_sub]
        omega
      rw [e]
      exact Nat.dvd_sub d1 d2
    have d2 : m / Nat.gcd s m ∣ s / Nat.gcd s m * (i - i0) := by
      apply Nat.dvd_of_mul_dvd_mul_left hg
      rw [Nat.mul_div_cancel' gm, ← Nat.mul_assoc, Nat.mul_div_cancel' gs]
      exact d
    have cop : Nat.Coprime (m / Nat.gcd s m) (s / Nat.gcd s m) := (Nat.coprime_div_gcd_div_gcd hg).symm
    obtain ⟨x, hx⟩ := cop.dvd_of_dvd_mul_left d2
    exact ⟨x, by rw [Nat.mul_comm, ← hx]; omega⟩
  · rintro ⟨x, rfl⟩
    have e : s * (i0 + x * (m / Nat.gcd s m)) = s * i0 + m * (s / Nat.gcd s m * x) := by
      rw [Nat.mul_add]
      congr 1
      calc s * (x * (m / Nat.gcd s m)) = (Nat.gcd s m * (s / Nat.gcd s m)) * (x * (m / Nat.gcd s m)) := by rw [Nat.mul_div_cancel' gs]
        _ = (Nat.gcd s m * (m / Nat.gcd s m)) * (s / Nat.gcd s m * x) := by
          rw [Nat.mul_assoc, Nat.mul_assoc]
          congr 1
          rw [Nat.mul_comm (s / Nat.gcd s m), Nat.mul_comm (s / Nat.gcd s m) x, Nat.mul_comm x, Nat.mul_assoc]
        _ = m * (s / Nat.gcd s m * x) := by rw [Nat.mul_div_cancel' gm]
    rw [e, ← Nat.add_assoc, Nat.add_mul_mod_self_left]
    exact h0

/-- the first row's turn j meets the second's turn k -/
def Meet (a s b t n j k : Nat) : Prop := j < n ∧ k < n ∧ a + s * j = b + t * k
/-- what meets says: how many, the first, all -/
def MeetsIs (a s b t n : Nat) : Option (Nat × Nat × Nat) → Prop
  | none => ∀ j k, ¬ Meet a s b t n j k
  | some (q, j0, k0) => 0 < q ∧ ∀ j k, Meet a s b t n j k ↔ ∃ x, x < q ∧ j = j0 + x * (t / Nat.gcd s t) ∧ k = k0 + x * (s / Nat.gcd s t)
theorem meets_is {a s b t n : Nat} (hs : 0 < s) (ht : 0 < t) (hn : 0 < n) (ht32 : t ≤ 2 ^ 32) : MeetsIs a s b t n (Cm05.meets a s b t n) := by
  unfold Cm05.meets
  generalize hlo : (if b ≤ a then 0 else (b - a + s - 1) / s) = lo
  have lo_iff : ∀ j, b ≤ a + s * j ↔ lo ≤ j := fun j => by
    by_cases c : b ≤ a
    · rw [if_pos c] at hlo
      omega
    · rw [if_neg c] at hlo
      subst hlo
      constructor
      · intro h
        exact up_least hs (by omega)
      · intro h
        have u := up_le (lo := b - a) hs
        have v : (b - a + s - 1) / s * s ≤ j * s := Nat.mul_le_mul_right s h
        rw [Nat.mul_comm j s] at v
        omega
  have top_iff : ∀ j, a ≤ b + t * (n - 1) → (a + s * j ≤ b + t * (n - 1) ↔ j ≤ (b + t * (n - 1) - a) / s) := fun j hle => by
    rw [Nat.le_div_iff_mul_le hs, Nat.mul_comm]
    omega
  have kn_iff : ∀ k, k < n ↔ t * k ≤ t * (n - 1) := fun k => by
    constructor
    · intro h
      exact Nat.mul_le_mul_left t (by omega)
    · intro h
      have := Nat.le_of_mul_le_mul_left h ht
      omega
  dsimp only
  by_cases c1 : n = 0 ∨ b + t * (n - 1) < a
  · rw [if_pos c1]
    intro j k h
    obtain ⟨h1, h2, h3⟩ := h
    have := (kn_iff k).mp h2
    omega
  rw [if_neg c1]
  have hle : a ≤ b + t * (n - 1) := by omega
  generalize hhi : min (n - 1) ((b + t * (n - 1) - a) / s) = hi
  have inside : ∀ j k, Meet a s b t n j k → lo ≤ j ∧ j ≤ hi := fun j k h => by
    obtain ⟨h1, h2, h3⟩ := h
    have e1 := (lo_iff j).mp (by omega)
    have e2 := (kn_iff k).mp h2
    have e3 := (top_iff j hle).mp (by omega)
    omega
  have mk : ∀ j, lo ≤ j → j ≤ hi → (a + s * j - b) % t = 0 → Meet a s b t n j ((a + s * j - b) / t) := fun j h1 h2 h3 => by
    have e1 := (lo_iff j).mpr h1
    have e2 := (top_iff j hle).mpr (by omega)
    have e4 : t * ((a + s * j - b) / t) = a + s * j - b := Nat.mul_div_cancel' (Nat.dvd_of_mod_eq_zero h3)
    refine ⟨by omega, (kn_iff _).mpr (by omega), by omega⟩
  have kof : ∀ j k, Meet a s b t n j k → (a + s * j - b) % t = 0 ∧ k = (a + s * j - b) / t := fun j k h => by
    have e : a + s * j - b = t * k := by have := h.2.2; omega
    rw [e, Nat.mul_mod_right, Nat.mul_div_cancel_left _ ht]
    exact ⟨rfl, rfl⟩
  by_cases c2 : hi < lo
  · rw [if_pos c2]
    intro j k h
    have := inside j k h
    omega
  rw [if_neg c2]
  have f := firstZero_least (c := a + s * lo - b) (s := s) ht ht32
  have hlo2 := (lo_iff lo).mpr (Nat.le_refl _)
  have sh : ∀ i, a + s * (lo + i) - b = a + s * lo - b + s * i := fun i => by
    rw [Nat.mul_add]
    omega
  cases e : firstZero (a + s * lo - b) s t with
  | none =>
    rw [e] at f
    intro j k h
    obtain ⟨h1, h2⟩ := inside j k h
    have z := (kof j k h).1
    have := sh (j - lo)
    rw [Nat.add_sub_cancel' h1] at this
    rw [this] at z
    exact f _ z
  | some i0 =>
    rw [e] at f
    dsimp only
    have hg : 0 < Nat.gcd s t := Nat.gcd_pos_of_pos_right s ht
    have gs : Nat.gcd s t ∣ s := Nat.gcd_dvd_left s t
    have gt : Nat.gcd s t ∣ t := Nat.gcd_dvd_right s t
    have hp : 0 < t / Nat.gcd s t := Nat.div_pos (Nat.le_of_dvd ht gt) hg
    have zi := zeros_iff ht f
    by_cases c3 : hi < lo + i0
    · rw [if_pos c3]
      intro j k h
      obtain ⟨h1, h2⟩ := inside j k h
      have z := (kof j k h).1
      have := sh (j - lo)
      rw [Nat.add_sub_cancel' h1] at this
      rw [this] at z
      obtain ⟨x, hx⟩ := (zi _).mp z
      omega
    rw [if_neg c3]
    refine ⟨Nat.succ_pos _, fun j k => ?_⟩
    have lt_iff : ∀ x, x < (hi - (lo + i0)) / (t / Nat.gcd s t) + 1 ↔ lo + i0 + x * (t / Nat.gcd s t) ≤ hi := fun x => by
      rw [Nat.lt_succ_iff, Nat.le_div_iff_mul_le hp]
      omega
    have kx : ∀ x, (a + s * (lo + i0 + x * (t / Nat.gcd s t)) - b) / t = (a + s * (lo + i0) - b) / t + x * (s / Nat.gcd s t) := fun x => by
      have e1 : s * (x * (t / Nat.gcd s t)) = t * (x * (s / Nat.gcd s t)) := by
        calc s * (x * (t / Nat.gcd s t)) = (Nat.gcd s t * (s / Nat.gcd s t)) * (x * (t / Nat.gcd s t)) := by rw [Nat.mul_div_cancel' gs]
          _ = (Nat.gcd s t * (t / Nat.gcd s t)) * (x * (s / Nat.gcd s t)) := by
            rw [Nat.mul_assoc, Nat.mul_assoc]
            congr 1
            rw [Nat.mul_left_comm, Nat.mul_left_comm (t / Nat.gcd s t), Nat.mul_comm (s / Nat.gcd s t)]
          _ = t * (x * (s / Nat.gcd s t)) := by rw [Nat.mul_div_cancel' gt]
      have h1 := sh i0
      have e2 : a + s * (lo + i0 + x * (t / Nat.gcd s t)) - b = a + s * (lo + i0) - b + t * (x * (s / Nat.gcd s t)) := by
        rw [Nat.mul_add s (lo + i0), e1]
        have : b ≤ a + s * (lo + i0) := (lo_iff _).mpr (by omega)
        omega
      rw [e2, Nat.add_mul_div_left _ _ ht]
    constructor
    · intro h
      obtain ⟨h1, h2⟩ := inside j k h
      obtain ⟨z, hk⟩ := kof j k h
      have := sh (j - lo)
      rw [Nat.add_sub_cancel' h1] at this
      rw [this] at z
      obtain ⟨x, hx⟩ := (zi _).mp z
      have ej : j = lo + i0 + x * (t / Nat.gcd s t) := by omega
      refine ⟨x, (lt_iff x).mpr (by omega), ej, ?_⟩
      rw [hk, ej, kx]
    · rintro ⟨x, hx, rfl, rfl⟩
      have h2 := (lt_iff x).mp hx
      rw [← kx]
      refine mk _ (by omega) h2 ?_
      have := sh (i0 + x * (t / Nat.gcd s t))
      rw [← Nat.add_assoc] at this
      rw [this]
      exact (zi _).mpr ⟨x, rfl⟩
end Wt
/-! How far two rows' turns are apart where they meet. -/
namespace Wt

def ApartIs (a s b t n : Nat) : Option Nat → Prop
  | none => ∀ j k, Meet a s b t n j k → k < j
  | some d => (∃ j, Meet a s b t n j (j + d)) ∧ ∀ j k, Meet a s b t n j k → j ≤ k → d ≤ k - j
/-- the least number that isn't below 0, of d, d + q, .. -/
def LeastD (d q : Int) (m : Nat) : Option Nat → Prop
  | none => ∀ x : Nat, x < m → d + (x : Int) * q < 0
  | some z => (∃ x : Nat, x < m ∧ d + (x : Int) * q = (z : Int)) ∧ ∀ x : Nat, x < m → 0 ≤ d + (x : Int) * q → (z : Int) ≤ d + (x : Int) * q
theorem mul_mono {x y : Nat} {q : Int} (h : x ≤ y) (hq : 0 ≤ q) : (x : Int) * q ≤ (y : Int) * q := Int.mul_le_mul_of_nonneg_right (by omega) hq
theorem leastD_is {d q : Int} {m : Nat} (hm : 0 < m) : LeastD d q m
    (if q = 0 then (if 0 ≤ d then some d.toNat else none)
      else if 0 < q then (if (if 0 ≤ d then 0 else ((-d + q - 1) / q).toNat) < m then some (d + (((if 0 ≤ d then 0 else ((-d + q - 1) / q).toNat) : Nat) : Int) * q).toNat else none)
      else if d < 0 then none else some (d + ((min (m - 1) (d / (-q)).toNat : Nat) : Int) * q).toNat) := by
  by_cases c0 : q = 0
  · rw [if_pos c0]
    subst c0
    by_cases c : 0 ≤ d
    · rw [if_pos c]
      refine ⟨⟨0, hm, by omega⟩, fun x hx h => ?_⟩
      rw [Int.mul_zero] at h ⊢
      omega
    · rw [if_neg c]
      intro x hx
      rw [Int.mul_zero]
      omega
  rw [if_neg c0]
  by_cases c1 : 0 < q
  · rw [if_pos c1]
    generalize hi : (if 0 ≤ d then 0 else ((-d + q - 1) / q).toNat) = i
    have hD : 0 ≤ d + (i : Int) * q ∧ ∀ x : Nat, x < i → d + (x : Int) * q < 0 := by
      by_cases c : 0 ≤ d
      · rw [if_pos c] at hi
        subst hi
        exact ⟨by omega, fun x hx => absurd hx (Nat.not_lt_zero x)⟩
      · rw [if_neg c] at hi
        have hnn : 0 ≤ (-d + q - 1) / q := Int.ediv_nonneg (by omega) (by omega)
        have ei : (i : Int) = (-d + q - 1) / q := by
          rw [← hi]
          exact Int.toNat_of_nonneg hnn
        have dm := Int.mul_ediv_add_emod (-d + q - 1) q
        have m1 := Int.emod_nonneg (-d + q - 1) (by omega : q ≠ 0)
        have m2 := Int.emod_lt_of_pos (-d + q - 1) c1
        rw [← ei, Int.mul_comm] at dm
        refine ⟨by omega, fun x hx => ?_⟩
        have h1 : (x : Int) * q ≤ ((i : Int) - 1) * q := Int.mul_le_mul_of_nonneg_right (by omega) (by omega)
        rw [Int.sub_mul, Int.one_mul] at h1
        omega
    by_cases c : i < m
    · rw [if_pos c]
      refine ⟨⟨i, c, by omega⟩, fun x hx h => ?_⟩
      have hle : i ≤ x := Nat.le_of_not_lt fun z => by have := hD.2 x z; omega
      have := mul_mono hle (Int.le_of_lt c1)
      omega
    · rw [if_neg c]
      intro x hx
      exact hD.2 x (by omega)
  rw [if_neg c1]
  by_cases c2 : d < 0
  · rw [if_pos c2]
    intro x hx
    have h1 := mul_mono (Nat.zero_le x) (show 0 ≤ -q by omega)
    rw [Int.mul_neg, Int.mul_neg] at h1
    simp at h1
    omega
  rw [if_neg c2]
  have hq : 0 < -q := by omega
  have hnn : 0 ≤ d / (-q) := Int.ediv_nonneg (by omega) (by omega)
  generalize hi : (d / (-q)).toNat = i
  have ei : (i : Int) = d / (-q) := by
    rw [← hi]
    exact Int.toNat_of_nonneg hnn
  have dm := Int.mul_ediv_add_emod d (-q)
  have m1 := Int.emod_nonneg d (by omega : -q ≠ 0)
  have m2 := Int.emod_lt_of_pos d hq
  rw [← ei, Int.mul_comm, Int.mul_neg] at dm
  have pos : ∀ x : Nat, x ≤ i → 0 ≤ d + (x : Int) * q := fun x hx => by
    have h1 := mul_mono hx (Int.le_of_lt hq)
    rw [Int.mul_neg, Int.mul_neg] at h1
    omega
  have neg : ∀ x : Nat, i < x → d + (x : Int) * q < 0 := fun x hx => by
    have h1 := mul_mono (Nat.succ_le_of_lt hx) (Int.le_of_lt hq)
    rw [Int.mul_neg, Int.mul_neg, show ((Nat.succ i : Nat) : Int) = (i : Int) + 1 from rfl, Int.add_mul, Int.one_mul] at h1
    omega
  have p0 := pos (min (m - 1) i) (by omega)
  refine ⟨⟨min (m - 1) i, by omega, by omega⟩, fun x hx h => ?_⟩
  have hx2 : x ≤ i := Nat.le_of_not_lt fun z => by have := neg x z; omega
  have h1 := mul_mono (show x ≤ min (m - 1) i by omega) (Int.le_of_lt hq)
  rw [Int.mul_neg, Int.mul_neg] at h1
  omega
theorem quot_sub {s t : Nat} (ht : 0 < t) : ((s : Int) - (t : Int)) / ((Nat.gcd s t : Nat) : Int) = ((s / Nat.gcd s t : Nat) : Int) - ((t / Nat.gcd s t : Nat) : Int) := by
  have hg : 0 < Nat.gcd s t := Nat.gcd_pos_of_pos_right s ht
  have e1 : (s : Int) = ((Nat.gcd s t : Nat) : Int) * ((s / Nat.gcd s t : Nat) : Int) := by
    rw [← Int.natCast_mul, Nat.mul_div_cancel' (Nat.gcd_dvd_left s t)]
  have e2 : (t : Int) = ((Nat.gcd s t : Nat) : Int) * ((t / Nat.gcd s t : Nat) : Int) := by
    rw [← Int.natCast_mul, Nat.mul_div_cancel' (Nat.gcd_dvd_right s t)]
  have e : (s : Int) - (t : Int) = ((Nat.gcd s t : Nat) : Int) * (((s / Nat.gcd s t : Nat) : Int) - ((t / Nat.gcd s t : Nat) : Int)) := by
    rw [Int.mul_sub, ← e1, ← e2]
  rw [e, Int.mul_ediv_cancel_left _ (by omega)]
theorem apart_is {a s b t n : Nat} (hs : 0 < s) (ht : 0 < t) (hn : 0 < n) (ht32 : t ≤ 2 ^ 32) : ApartIs a s b t n (Cm05.apart a s b t n) := by
  have mi := meets_is (a := a) (b := b) hs ht hn ht32
  unfold Cm05.apart
  cases e : Cm05.meets a s b t n with
  | none =>
    rw [e] at mi
    intro j k h
    exact absurd h (mi j k)
  | some r =>
    obtain ⟨m, j0, k0⟩ := r
    rw [e] at mi
    obtain ⟨hm, mi⟩ := mi
    have ld := leastD_is (d := (k0 : Int) - (j0 : Int)) (q := ((s : Int) - (t : Int)) / ((Nat.gcd s t : Nat) : Int)) hm
    have dx : ∀ x : Nat, ((k0 + x * (s / Nat.gcd s t) : Nat) : Int) - ((j0 + x * (t / Nat.gcd s t) : Nat) : Int) = (k0 : Int) - (j0 : Int) + (x : Int) * (((s : Int) - (t : Int)) / ((Nat.gcd s t : Nat) : Int)) := fun x => by
      rw [quot_sub ht, Int.natCast_add, Int.natCast_add, Int.natCast_mul, Int.natCast_mul, Int.mul_sub]
      omega
    have hgoal : ∀ O, LeastD ((k0 : Int) - (j0 : Int)) (((s : Int) - (t : Int)) / ((Nat.gcd s t : Nat) : Int)) m O → ApartIs a s b t n O := fun O h => by
      cases O with
      | none =>
        intro j k hjk
        obtain ⟨x, hx, rfl, rfl⟩ := (mi j k).mp hjk
        have := h x hx
        have := dx x
        omega
      | some z =>
        obtain ⟨⟨x, hx, hz⟩, h2⟩ := h
        refine ⟨⟨j0 + x * (t / Nat.gcd s t), ?_⟩, fun j k hjk hle => ?_⟩
        · have := dx x
          have e : j0 + x * (t / Nat.gcd s t) + z = k0 + x * (s / Nat.gcd s t) := by omega
          rw [e]
          exact (mi _ _).mpr ⟨x, hx, rfl, rfl⟩
        · obtain ⟨y, hy, rfl, rfl⟩ := (mi j k).mp hjk
          have e1 := dx y
          have e2 := h2 y hy (by omega)
          omega
    exact hgoal _ ld
end Wt
/-! What stage 2's defs make, in the specification's words. -/
namespace Wt
open Cm05 (normal choose total)

/-! chains by their words -/
theorem getD_range {f : Nat → Nat} {L k : Nat} (h : k < L) : ((List.range L).map f).getD k 0 = f k := by
  rw [List.getD_eq_getElem?_getD, List.getElem?_map, List.getElem?_range h]
  rfl
def byWords (M : Nat) (l : List Nat) : List Nat := Cm05.newton M l.length l
def prods (M : Nat) (a b : List Nat) : List Nat := (List.range (a.length + b.length - 1)).map fun t => Cm05.at_ M a t * Cm05.at_ M b t % M
theorem times_by {M : Nat} (hM : 0 < M) (a b : List Nat) : Cm05.times M a b = normal (byWords M (prods M a b)) := by
  rw [times_eq]
  congr 1
  have hl : (prods M a b).length = a.length + b.length - 1 := by
    unfold prods
    rw [List.length_map, List.length_range]
  unfold byWords
  rw [hl]
  have nl := newton_length M (a.length + b.length - 1) (prods M a b) hl
  refine W_uniq (M := M) ?_ ?_ ?_ fun k hk => ?_
  · rw [nl, List.length_map]
    unfold prod
    rw [List.length_map, List.length_range]
  · intro x hx
    obtain ⟨y, _, rfl⟩ := List.mem_map.mp hx
    exact Nat.mod_lt _ hM
  · exact newton_lt hM _ _ fun y hy => map_mod_lt (f := fun t => Cm05.at_ M a t * Cm05.at_ M b t) hM y hy
  · have hk : k < a.length + b.length - 1 := by
      unfold prod at hk
      rw [List.length_map, List.length_map, List.length_range] at hk
      exact hk
    rw [W_mod, W_newton hM _ _ hl k hk, W_prod k a b _ (by omega)]
    unfold prods
    rw [getD_range hk, Nat.mod_mod, at_W, at_W, ← Nat.mul_mod]
def thin (M : Nat) (c : List Nat) (d : Nat) : List Nat := (List.range c.length).map fun i => Cm05.at_ M c (i * d)
theorem every_by (M : Nat) (c : List Nat) (d : Nat) : Cm05.every M c d = normal (byWords M (thin M c d)) := by
  unfold Cm05.every byWords thin
  rw [List.length_map, List.length_range]
  congr 3
  funext i
  rw [Nat.mul_comm]
def mv (M : Nat) (c : List Nat) (d : Nat) : List Nat := (List.range c.length).map fun j => Cm05.at_ M (c.drop j) d
theorem mv_length (M : Nat) (c : List Nat) (d : Nat) : (mv M c d).length = c.length := by
  unfold mv
  rw [List.length_map, List.length_range]
theorem mv_ahead (M : Nat) (c : List Nat) (d : Nat) : mv M c d = (aheadN c d).map (· % M) := by
  unfold mv aheadN
  rw [List.map_map]
  refine List.map_congr_left fun j _ => ?_
  rw [at_W]
  rfl
theorem ahead_by (M : Nat) (c : List Nat) (d : Nat) : Cm05.ahead M c d = normal (mv M c d) := by
  rw [ahead_eq, mv_ahead]
theorem normal_le : ∀ c : List Nat, c ≠ [] → (normal c).length ≤ c.length := by
  refine normal_cases _ (fun h => absurd rfl h) (fun _ => by decide) (fun l hl ih _ => ?_) (fun l x hx _ => ?_)
  · rw [normal_zero hl, List.length_append]
    have := ih hl
    omega
  · rw [normal_nz hx]
    exact Nat.le_refl _
theorem normal_full : ∀ c : List Nat, c ≠ [] → (normal c).length = c.length → normal c = c := by
  refine normal_cases _ (fun h => absurd rfl h) (fun _ _ => by decide) (fun l hl ih _ h => ?_) (fun l x hx _ _ => ?_)
  · rw [normal_zero hl, List.length_append] at h
    have := normal_le l hl
    simp at h
    omega
  · rw [normal_nz hx]
theorem mv_iff {M d : Nat} {c : List Nat} (hc : c ≠ []) (hn : normal c = c) : mv M c d = c ↔ Cm05.ahead M c d = c := by
  rw [ahead_by]
  constructor
  · intro h
    rw [h, hn]
  · intro h
    have ne : mv M c d ≠ [] := by
      intro e
      have := congrArg List.length e
      rw [mv_length] at this
      exact hc (List.eq_nil_of_length_eq_zero this)
    have e := normal_full (mv M c d) ne (by rw [h, mv_length])
    rw [← e, h]
theorem byWords_ne {M : Nat} {l : List Nat} (h : l ≠ []) : byWords M l ≠ [] := by
  intro e
  have := congrArg List.length e
  unfold byWords at this
  rw [newton_length M l.length l rfl] at this
  exact h (List.eq_nil_of_length_eq_zero this)
theorem byWords_length (M : Nat) (l : List Nat) : (byWords M l).length = l.length := newton_length M l.length l rfl
theorem byWords_cons (M a : Nat) (l : List Nat) : byWords M (a :: l) = a :: byWords M (Cm05.differences M (a :: l)) := by
  unfold byWords
  rw [differences_length]
  rfl

/-! rows of places -/
theorem lands_zero {a s b t : Nat} (ht : 0 < t) : Cm05.lands t (a % t) (s % t) (b % t) (b % t) = Cm05.firstZero (a + (t - b % t)) s t := by
  have la := Nat.mod_lt a ht
  have lb := Nat.mod_lt b ht
  have e : (a + (t - b % t)) % t = (a % t + (t - b % t)) % t := (Nat.mod_add_mod a t (t - b % t)).symm
  unfold Cm05.lands Cm05.firstZero
  rw [e, Nat.mod_mod]
  generalize a % t = x at *
  generalize b % t = y at *
  by_cases h : x = y
  · subst h
    rw [if_pos (by omega), if_pos]
    rw [show x + (t - x) = t by omega, Nat.mod_self]
  · rw [if_neg (by omega)]
    by_cases c : y < x
    · have e1 : (x + (t - y)) % t = x - y := by
        rw [show x + (t - y) = x - y + t by omega, Nat.add_mod_right, Nat.mod_eq_of_lt (by omega)]
      rw [e1, if_neg (by omega), Nat.mod_eq_of_lt (show y + t - x < t by omega)]
      congr 1 <;> omega
    · have e1 : (x + (t - y)) % t = x + (t - y) := Nat.mod_eq_of_lt (by omega)
      have e2 : (y + t - x) % t = y - x := by
        rw [show y + t - x = y - x + t by omega, Nat.add_mod_right, Nat.mod_eq_of_lt (by omega)]
      rw [e1, if_neg (by omega), e2]
      congr 1 <;> omega
theorem cong_iff {a s b t j : Nat} (ht : 0 < t) : (a + (t - b % t) + s * j) % t = 0 ↔ ∃ k : Int, (a : Int) + s * j - b = t * k := by
  have lb := Nat.mod_lt b ht
  have d := Nat.div_add_mod b t
  constructor
  · intro h
    have d2 := Nat.div_add_mod (a + (t - b % t) + s * j) t
    rw [h] at d2
    refine ⟨((a + (t - b % t) + s * j) / t : Nat) - 1 - ((b / t : Nat) : Int), ?_⟩
    rw [Int.mul_sub, Int.mul_sub, ← Int.natCast_mul, ← Int.natCast_mul, ← Int.natCast_mul]
    omega
  · rintro ⟨k, hk⟩
    have e : ((a + (t - b % t) + s * j : Nat) : Int) = t * (k + 1 + ((b / t : Nat) : Int)) := by
      rw [Int.mul_add, Int.mul_add, ← hk, ← Int.natCast_mul, ← Int.natCast_mul]
      omega
    have e2 : ((((a + (t - b % t) + s * j) % t : Nat)) : Int) = 0 := by
      rw [Int.natCast_emod, e, Int.mul_emod_right]
    omega
def missed (k : Int) (q : Nat) : Nat := if k < 0 then ((-k).toNat + q - 1) / q else 0
def pm (a s b t n j0 : Nat) : Option (Nat × Nat × Nat) :=
  let k0 : Int := ((a : Int) + j0 * s - b) / t
  let q := missed k0 (s / Nat.gcd s t)
  let j := j0 + q * (t / Nat.gcd s t)
  let k := (k0 + q * (s / Nat.gcd s t : Nat)).toNat
  if n ≤ j ∨ n ≤ k then none else some (1 + min ((n - 1 - j) / (t / Nat.gcd s t)) ((n - 1 - k) / (s / Nat.gcd s t)), j, k)
theorem gcd_swap {s t : Nat} (ht : 0 < t) : s * (t / Nat.gcd s t) = t * (s / Nat.gcd s t) := by
  have hg : 0 < Nat.gcd s t := Nat.gcd_pos_of_pos_right s ht
  rw [← Nat.mul_div_assoc _ (Nat.gcd_dvd_right s t), ← Nat.mul_div_assoc _ (Nat.gcd_dvd_left s t), Nat.mul_comm]
theorem bj_pos {s t : Nat} (ht : 0 < t) : 0 < t / Nat.gcd s t := Nat.div_pos (Nat.le_of_dvd ht (Nat.gcd_dvd_right s t)) (Nat.gcd_pos_of_pos_right s ht)
theorem bk_pos {s t : Nat} (hs : 0 < s) : 0 < s / Nat.gcd s t := Nat.div_pos (Nat.le_of_dvd hs (Nat.gcd_dvd_left s t)) (Nat.gcd_pos_of_pos_left t hs)
/-- what the first meeting ahead of the other row's begin is worth -/
theorem meet_line {a s b t j0 : Nat} (ht : 0 < t) (h : LeastZ (a + (t - b % t)) s t (some j0)) (k0 : Int) (hk0 : (a : Int) + s * j0 - b = t * k0) (j k : Nat) :
    a + s * j = b + t * k ↔ ∃ x : Nat, j = j0 + x * (t / Nat.gcd s t) ∧ (k : Int) = k0 + x * (s / Nat.gcd s t : Nat) := by
  have sw := gcd_swap (s := s) ht
  have key : ∀ x : Nat, (s : Int) * ((j0 + x * (t / Nat.gcd s t) : Nat) : Int) = s * j0 + t * (x * (s / Nat.gcd s t : Nat)) := fun x => by
    have e : s * (j0 + x * (t / Nat.gcd s t)) = s * j0 + t * (x * (s / Nat.gcd s t)) := by
      rw [Nat.mul_add, ← Nat.mul_assoc, Nat.mul_comm s x, Nat.mul_assoc, sw, ← Nat.mul_assoc, Nat.mul_comm x t, Nat.mul_assoc]
    have := congrArg (fun z : Nat => (z : Int)) e
    simp only [Int.natCast_mul, Int.natCast_add] at this ⊢
    exact this
  constructor
  · intro e
    have hz := (cong_iff (a := a) (s := s) (b := b) (t := t) (j := j) ht).mpr ⟨(k : Int), by
      have := congrArg (fun z : Nat => (z : Int)) e
      simp only [Int.natCast_mul, Int.natCast_add] at this
      omega⟩
    obtain ⟨x, hx⟩ := (zeros_iff ht h j).mp hz
    refine ⟨x, hx, ?_⟩
    have e1 := congrArg (fun z : Nat => (z : Int)) e
    simp only [Int.natCast_mul, Int.natCast_add] at e1
    rw [hx, key x] at e1
    have e2 : (t : Int) * k = t * (k0 + x * (s / Nat.gcd s t : Nat)) := by
      rw [Int.mul_add, ← hk0]
      omega
    exact Int.eq_of_mul_eq_mul_left (by omega) e2
  · rintro ⟨x, hx, hk⟩
    have e2 : (t : Int) * k = t * k0 + t * (x * (s / Nat.gcd s t : Nat)) := by rw [hk, Int.mul_add]
    have e3 := key x
    rw [← hx] at e3
    have : ((a + s * j : Nat) : Int) = ((b + t * k : Nat) : Int) := by
      simp only [Int.natCast_mul, Int.natCast_add]
      omega
    omega
theorem missed_least {k : Int} {q x : Nat} (hq : 0 < q) (h : 0 ≤ k + x * (q : Nat)) : missed k q ≤ x := by
  unfold missed
  by_cases c : k < 0
  · rw [if_pos c]
    refine up_least hq ?_
    have : ((-k).toNat : Int) ≤ ((q * x : Nat) : Int) := by
      rw [Int.toNat_of_nonneg (by omega), Int.natCast_mul, Int.mul_comm]
      omega
    omega
  · rw [if_neg c]
    omega
theorem missed_ok {k : Int} {q : Nat} (hq : 0 < q) : 0 ≤ k + (missed k q : Nat) * (q : Nat) := by
  unfold missed
  by_cases c : k < 0
  · rw [if_pos c]
    have u := up_le (lo := (-k).toNat) hq
    have u2 : ((-k).toNat : Int) ≤ ((((-k).toNat + q - 1) / q * q : Nat) : Int) := by omega
    rw [Int.toNat_of_nonneg (by omega), Int.natCast_mul] at u2
    omega
  · rw [if_neg c]
    simp
    omega
theorem pm_is {a s b t n j0 : Nat} (hs : 0 < s) (ht : 0 < t) (h : LeastZ (a + (t - b % t)) s t (some j0)) : MeetsIs a s b t n (pm a s b t n j0) := by
  obtain ⟨k0, hk0⟩ := (cong_iff (a := a) (s := s) (b := b) (t := t) (j := j0) ht).mp h.1
  have ek : ((a : Int) + j0 * s - b) / t = k0 := by
    rw [Int.mul_comm (j0 : Int), hk0, Int.mul_ediv_cancel_left _ (by omega)]
  have ml := meet_line ht h k0 hk0
  unfold pm
  rw [ek]
  have pj := bj_pos (s := s) ht
  have pk := bk_pos (t := t) hs
  generalize hu : t / Nat.gcd s t = u at *
  generalize hv : s / Nat.gcd s t = v at *
  dsimp only
  have hm := missed_ok (k := k0) pk
  have hl : ∀ x : Nat, 0 ≤ k0 + x * (v : Nat) → missed k0 v ≤ x := fun x => missed_least pk
  generalize missed k0 v = q at *
  generalize hj1 : j0 + q * u = j1
  generalize hk1 : (k0 + (q : Int) * (v : Int)).toNat = k1
  have hk1 : (k1 : Int) = k0 + q * v := by omega
  have line : ∀ j k : Nat, a + s * j = b + t * k ↔ ∃ y : Nat, j = j1 + y * u ∧ k = k1 + y * v := fun j k => by
    rw [ml j k]
    constructor
    · rintro ⟨x, hx, hk⟩
      have := hl x (by omega)
      refine ⟨x - q, ?_, ?_⟩
      · rw [Nat.sub_mul, hx, ← hj1]
        have := Nat.mul_le_mul_right u this
        omega
      · have e : (k : Int) = (k1 : Int) + ((x - q : Nat) : Int) * (v : Int) := by
          rw [hk, hk1, Int.ofNat_sub this, Int.sub_mul]
          omega
        have e2 : (k : Int) = ((k1 + (x - q) * v : Nat) : Int) := by
          rw [Int.natCast_add, Int.natCast_mul]
          exact e
        omega
    · rintro ⟨y, hy, hk⟩
      refine ⟨q + y, ?_, ?_⟩
      · rw [Nat.add_mul, hy, ← hj1]
        omega
      · rw [hk, Int.natCast_add, Int.natCast_add, Int.natCast_mul, Int.add_mul, hk1]
        omega
  by_cases c : n ≤ j1 ∨ n ≤ k1
  · rw [if_pos c]
    rintro j k ⟨h1, h2, h3⟩
    obtain ⟨y, hy, hk⟩ := (line j k).mp h3
    omega
  · rw [if_neg c]
    refine ⟨Nat.lt_of_lt_of_le Nat.one_pos (Nat.le_add_right 1 _), fun j k => ?_⟩
    rw [hu, hv]
    have inn : ∀ y z w : Nat, 0 < w → z < n → (z + y * w < n ↔ y ≤ (n - 1 - z) / w) := fun y z w hw hz => by
      rw [Nat.le_div_iff_mul_le hw]
      omega
    constructor
    · rintro ⟨h1, h2, h3⟩
      obtain ⟨y, hy, hk⟩ := (line j k).mp h3
      have e1 := (inn y j1 u pj (by omega)).mp (by omega)
      have e2 := (inn y k1 v pk (by omega)).mp (by omega)
      exact ⟨y, by omega, hy, hk⟩
    · rintro ⟨y, hy, hj, hk⟩
      have e1 := (inn y j1 u pj (by omega)).mpr (by omega)
      have e2 := (inn y k1 v pk (by omega)).mpr (by omega)
      exact ⟨by omega, by omega, (line j k).mpr ⟨y, hj, hk⟩⟩
theorem pm_none {a s b t n : Nat} (ht : 0 < t) (h : LeastZ (a + (t - b % t)) s t none) : MeetsIs a s b t n none := by
  rintro j k ⟨h1, h2, h3⟩
  refine h j ((cong_iff (a := a) (s := s) (b := b) (t := t) (j := j) ht).mpr ⟨(k : Int), ?_⟩)
  have := congrArg (fun z : Nat => (z : Int)) h3
  simp only [Int.natCast_mul, Int.natCast_add] at this
  omega
theorem meetsIs_uniq {a s b t n : Nat} (hs : 0 < s) (ht : 0 < t) {o o' : Option (Nat × Nat × Nat)} (h : MeetsIs a s b t n o) (h' : MeetsIs a s b t n o') : o = o' := by
  have pj := bj_pos (s := s) ht
  cases o with
  | none =>
    cases o' with
    | none => rfl
    | some r =>
      obtain ⟨q, j, k⟩ := r
      exact absurd ((h'.2 j k).mpr ⟨0, h'.1, by omega, by omega⟩) (h j k)
  | some r =>
    obtain ⟨q, j, k⟩ := r
    have m0 := (h.2 j k).mpr ⟨0, h.1, by omega, by omega⟩
    cases o' with
    | none => exact absurd m0 (h' j k)
    | some r' =>
      obtain ⟨q', j', k'⟩ := r'
      obtain ⟨hq, h⟩ := h
      obtain ⟨hq', h'⟩ := h'
      have m0' := (h' j' k').mpr ⟨0, hq', by omega, by omega⟩
      obtain ⟨x, _, e1, e2⟩ := (h' j k).mp m0
      obtain ⟨y, _, e3, e4⟩ := (h j' k').mp m0'
      generalize t / Nat.gcd s t = u at *
      generalize s / Nat.gcd s t = v at *
      have ej : j = j' := by omega
      have ek : k = k' := by omega
      subst ej ek
      have le : ∀ p p' : Nat, (∀ j2 k2, (∃ x, x < p ∧ j2 = j + x * u ∧ k2 = k + x * v) → ∃ x, x < p' ∧ j2 = j + x * u ∧ k2 = k + x * v) → 0 < p → p ≤ p' := fun p p' hh hp => by
        obtain ⟨z, hz, ez, _⟩ := hh (j + (p - 1) * u) (k + (p - 1) * v) ⟨p - 1, by omega, rfl, rfl⟩
        have : (p - 1) * u = z * u := by omega
        have := Nat.eq_of_mul_eq_mul_right pj this
        omega
      have l1 := le q q' (fun j2 k2 z => (h' j2 k2).mp ((h j2 k2).mpr z)) hq
      have l2 := le q' q (fun j2 k2 z => (h j2 k2).mp ((h' j2 k2).mpr z)) hq'
      have : q = q' := by omega
      rw [this]
def pmeets (a s b t n : Nat) : Option (Nat × Nat × Nat) := (Cm05.lands t (a % t) (s % t) (b % t) (b % t)).bind (pm a s b t n)
theorem meets_by {a s b t n : Nat} (hs : 0 < s) (ht : 0 < t) (hn : 0 < n) (ht32 : t ≤ 2 ^ 32) : Cm05.meets a s b t n = pmeets a s b t n := by
  refine meetsIs_uniq hs ht (meets_is hs ht hn ht32) ?_
  unfold pmeets
  rw [lands_zero ht]
  have f := firstZero_least (c := a + (t - b % t)) (s := s) ht ht32
  cases e : Cm05.firstZero (a + (t - b % t)) s t with
  | none =>
    rw [e] at f
    exact pm_none ht f
  | some j =>
    rw [e] at f
    exact pm_is hs ht f
theorem lands_lt {a s b t j : Nat} (ht : 0 < t) (ht32 : t ≤ 2 ^ 32) (h : Cm05.lands t (a % t) (s % t) (b % t) (b % t) = some j) : j < t := by
  rw [lands_zero ht] at h
  have f := firstZero_least (c := a + (t - b % t)) (s := s) ht ht32
  rw [h] at f
  exact leastZ_lt ht f

/-! how far apart -/
def lnb (d q : Int) (m : Nat) : Option Int :=
  if 0 ≤ d ∧ 0 ≤ q then some d else if 0 ≤ d then some (d + q * (if d / -q < (m : Int) - 1 then d / -q else (m : Int) - 1)) else if q ≤ 0 then none else
    if (m : Int) ≤ (-d + q - 1) / q then none else some (d + q * ((-d + q - 1) / q))
theorem lnb_eq {d q : Int} {m : Nat} (hm : 0 < m) : (if q = 0 then (if 0 ≤ d then some d.toNat else none)
      else if 0 < q then (if (if 0 ≤ d then 0 else ((-d + q - 1) / q).toNat) < m then some (d + (((if 0 ≤ d then 0 else ((-d + q - 1) / q).toNat) : Nat) : Int) * q).toNat else none)
      else if d < 0 then none else some (d + ((min (m - 1) (d / (-q)).toNat : Nat) : Int) * q).toNat).map (fun z : Nat => (z : Int)) = lnb d q m := by
  unfold lnb
  by_cases q0 : q = 0
  · rw [if_pos q0]
    by_cases h : 0 ≤ d
    · rw [if_pos h, if_pos ⟨h, by omega⟩]
      show some ((d.toNat : Nat) : Int) = some d
      rw [Int.toNat_of_nonneg h]
    · rw [if_neg h, if_neg (by omega), if_neg h, if_pos (by omega)]
      rfl
  · rw [if_neg q0]
    by_cases qp : 0 < q
    · rw [if_pos qp]
      by_cases h : 0 ≤ d
      · rw [if_pos h, if_pos hm, if_pos ⟨h, by omega⟩]
        show some (((d + ((0 : Nat) : Int) * q).toNat : Nat) : Int) = some d
        rw [Int.natCast_zero, Int.zero_mul, Int.add_zero, Int.toNat_of_nonneg h]
      · rw [if_neg h, if_neg (show ¬ (0 ≤ d ∧ 0 ≤ q) from fun z => h z.1), if_neg h, if_neg (show ¬ q ≤ 0 by omega)]
        have p : 0 ≤ (-d + q - 1) / q := Int.ediv_nonneg (by omega) (by omega)
        have dm := Int.mul_ediv_add_emod (-d + q - 1) q
        have lt := Int.emod_lt_of_pos (-d + q - 1) qp
        generalize (-d + q - 1) / q = z at *
        by_cases g : (m : Int) ≤ z
        · rw [if_neg (by omega), if_pos g]
          rfl
        · rw [if_pos (by omega), if_neg g]
          show some (((d + ((z.toNat : Nat) : Int) * q).toNat : Nat) : Int) = _
          rw [Int.toNat_of_nonneg p, Int.mul_comm z q, Int.toNat_of_nonneg (by omega)]
    · rw [if_neg qp]
      by_cases h : d < 0
      · rw [if_pos h, if_neg (by omega), if_neg (by omega), if_pos (by omega)]
        rfl
      · rw [if_neg h, if_neg (by omega), if_pos (by omega)]
        have p : 0 ≤ d / -q := Int.ediv_nonneg (by omega) (by omega)
        have dm := Int.mul_ediv_add_emod d (-q)
        have r0 := Int.emod_nonneg d (show -q ≠ 0 by omega)
        generalize d / -q = z at *
        have ee : ((min (m - 1) z.toNat : Nat) : Int) = (if z < (m : Int) - 1 then z else (m : Int) - 1) := by
          split <;> omega
        rw [ee]
        have le : (if z < (m : Int) - 1 then z else (m : Int) - 1) ≤ z := by split <;> omega
        generalize (if z < (m : Int) - 1 then z else (m : Int) - 1) = y at *
        have g : 0 ≤ d + y * q := by
          have e1 : y * -q ≤ z * -q := Int.mul_le_mul_of_nonneg_right le (by omega)
          rw [Int.mul_comm z (-q)] at e1
          rw [Int.mul_neg] at e1
          omega
        show some (((d + y * q).toNat : Nat) : Int) = _
        rw [Int.toNat_of_nonneg g, Int.mul_comm]
theorem apart_by {a s b t n : Nat} {r : Nat × Nat × Nat} (h : Cm05.meets a s b t n = some r) (hm : 0 < r.1) :
    (Cm05.apart a s b t n).map (fun z : Nat => (z : Int)) = lnb ((r.2.2 : Int) - (r.2.1 : Int)) (((s : Int) - (t : Int)) / (Nat.gcd s t : Nat)) r.1 := by
  rw [← lnb_eq hm]
  unfold Cm05.apart
  rw [h]
  rfl
end Wt
/-! My own words over the hand layer. -/
namespace Wt
open PySem PySem.Spec PyProof.Rows L2

def topS (i : Nat) : Stmt := PySem.Challenge.pw_wrappingturns_s01_answers.main.body.getD i (.Pass ⟨0, 0, 0, 0⟩)

/-- a def of the text under its name -/
structure Def (K : PySem.W.Frag) (mg : Str → Option Value) (x : Str) (st : Stmt) (ps : List Str) : Prop where
  ex : ∃ (f : Addr) (fd : FuncData), Fun K x x st f fd ∧ mg x = some (.ref f) ∧ Binds K fd ps []
/-- a def that may be called by its name -/
structure Cal (P : Program) (w : World) (K : PySem.W.Frag) (mg : Str → Option Value) (base : Heap) (k : Nat) (x : Str) (sp : Sp) : Prop where
  ex : ∃ (f : Addr) (fd : FuncData) (ps : List Str), FnOk P w K mg base CX0 k f fd ps sp ∧ mg x = some (.ref f) ∧ PySem.W.keepIn K (.ref f) = true ∧ Binds K fd ps []
/-- a def that may be called where it lies at f -/
structure CalAt (P : Program) (w : World) (K : PySem.W.Frag) (mg : Str → Option Value) (base : Heap) (j : Nat) (f : Addr) (sp : Sp) : Prop where
  has : ∃ (ps : List Str) (fd : FuncData), Binds K fd ps [] ∧ PySem.W.keepIn K (.ref f) = true ∧ FnOk P w K mg base CX0 j f fd ps sp
/-- an own method, by its class -/
structure Met (P : Program) (w : World) (K : PySem.W.Frag) (mg : Str → Option Value) (base : Heap) (k : Nat) (C : Addr) (m : Str) (sp : Sp) : Prop where
  ex : ∃ (f : Addr) (fd : FuncData) (ps : List Str), Cls K C ∧ Meth K C m f ∧ FnOk P w K mg base CX0 k f fd ps sp ∧ Binds K fd ps []
/-- a method of the text -/
structure DefM (K : PySem.W.Frag) (C : Addr) (m qual : Str) (st : Stmt) (ps : List Str) : Prop where
  ex : ∃ (f : Addr) (fd : FuncData), Cls K C ∧ Meth K C m f ∧ Fun K m qual st f fd ∧ Binds K fd ps []
/-- a class by its name -/
structure Mak (P : Program) (w : World) (K : PySem.W.Frag) (mg : Str → Option Value) (base : Heap) (k : Nat) (x : Str) (C : Addr) (sp : Sp) : Prop where
  ex : ∃ (f : Addr) (fd : FuncData) (ps : List Str), Mk K C f ∧ FnOk P w K mg base CX0 k f fd ps sp ∧ mg x = some (.ref C) ∧ Binds K fd ps []
structure DefK (K : PySem.W.Frag) (mg : Str → Option Value) (x : Str) (C : Addr) (qual : Str) (st : Stmt) (ps : List Str) : Prop where
  ex : ∃ (f : Addr) (fd : FuncData), Mk K C f ∧ Fun K "__init__" qual st f fd ∧ mg x = some (.ref C) ∧ Binds K fd ps []

section
variable {P : Program} {w : World} {K : PySem.W.Frag} {mg : Str → Option Value} {base : Heap} {k : Nat} {sp : Sp} {N ps : List Str} {st : Stmt}
theorem Def.cal {x : Str} (D : Def K mg x st ps) (S : FnScope N ps (defScope st)) (len : ∀ vs H Q E, sp vs H Q E → vs.length = ps.length)
    (hbody : ∀ (f : Addr) (cdv : Value) (A : Around) (outer : List Env) (s : Shared) (H : Hp) (vs : List V) (Q : VK) (E : XK), Room k (A.deeper (envOfC x (defScope st) s.heap.objs.size f cdv)) → sp vs H Q E →
      ∃ t, PSs (cxOf CX0 P w K mg base N x (defScope st) f cdv A outer s H E).nox (defBody st) t ∧ t { nx := fun _ H' => Q .non H', rt := Q } (start N vs) H) : Cal P w K mg base (k + 1) x sp := by
  obtain ⟨f, fd, F, hm, b⟩ := D.ex
  exact ⟨f, fd, ps, F.ok S len (hbody f), hm, F.kp, b⟩
theorem Cal.at_ {x : Str} {f : Addr} (c : Cal P w K mg base k x sp) (hm : mg x = some (.ref f)) : CalAt P w K mg base k f sp := by
  obtain ⟨g, fd, ps, F, hg, kp, b⟩ := c.ex
  have e : g = f := by
    have e1 := hg.symm.trans hm
    injection e1 with e2
    injection e2
  subst e
  exact ⟨ps, fd, b, kp, F⟩
theorem FnOk.up {CX : CXT} {j k : Nat} {f : Addr} {fd : FuncData} (F : FnOk P w K mg base CX j f fd ps sp) (h : j ≤ k) : FnOk P w K mg base CX k f fd ps sp :=
  ⟨F.len, fun A outer s H args us vs Q E hr => F.run A outer s H args us vs Q E (hr.mono h)⟩
theorem CalAt.up {j k : Nat} {f : Addr} (c : CalAt P w K mg base j f sp) (h : j ≤ k) : CalAt P w K mg base k f sp := by
  obtain ⟨ps, fd, b, kp, F⟩ := c.has
  exact ⟨ps, fd, b, kp, FnOk.up F h⟩
theorem DefM.met {C : Addr} {m qual : Str} (D : DefM K C m qual st ps) (S : FnScope N ps (defScope st)) (len : ∀ vs H Q E, sp vs H Q E → vs.length = ps.length)
    (hbody : ∀ (f : Addr) (cdv : Value) (A : Around) (outer : List Env) (s : Shared) (H : Hp) (vs : List V) (Q : VK) (E : XK), Room k (A.deeper (envOfC qual (defScope st) s.heap.objs.size f cdv)) → sp vs H Q E →
      ∃ t, PSs (cxOf CX0 P w K mg base N qual (defScope st) f cdv A outer s H E).nox (defBody st) t ∧ t { nx := fun _ H' => Q .non H', rt := Q } (start N vs) H) : Met P w K mg base (k + 1) C m sp := by
  obtain ⟨f, fd, hc, hm, F, b⟩ := D.ex
  exact ⟨f, fd, ps, hc, hm, F.ok S len (hbody f), b⟩
theorem DefK.mak {x qual : Str} {C : Addr} (D : DefK K mg x C qual st ps) (S : FnScope N ps (defScope st)) (len : ∀ vs H Q E, sp vs H Q E → vs.length = ps.length)
    (hbody : ∀ (f : Addr) (cdv : Value) (A : Around) (outer : List Env) (s : Shared) (H : Hp) (vs : List V) (Q : VK) (E : XK), Room k (A.deeper (envOfC qual (defScope st) s.heap.objs.size f cdv)) → sp vs H Q E →
      ∃ t, PSs (cxOf CX0 P w K mg base N qual (defScope st) f cdv A outer s H E).nox (defBody st) t ∧ t { nx := fun _ H' => Q .non H', rt := Q } (start N vs) H) : Mak P w K mg base (k + 1) x C sp := by
  obtain ⟨f, fd, M, F, hm, b⟩ := D.ex
  exact ⟨f, fd, ps, M, F.ok S len (hbody f), hm, b⟩
end

section
variable {X : Cx} {k j : Nat} {C : Addr} {x m : Str} {sp : Sp} {p pos apos : Pos} {e o : Expr} {es : List Expr} {ta : TE} {t : TA}
theorem pe_c (c : Cal X.prog X.w X.K X.mg X.base k x sp) (hr : Room j X.A) (hk : k ≤ j) (hg : Gl X x) (ha : PA X (e :: es) t)
    (hdb : (x == ("__debug__" : Str)) = false := by decide) (he : starEach (e :: es) X.env = (false, eval e X.env) :: starEach es X.env := by rfl) (hpl : (backTo pos (starEach es X.env)).any (·.1) = false := by rfl) :
    PE X (.Call (.Name x p) (e :: es) [] pos) (tCall sp [] E0 t) := by
  obtain ⟨f, fd, ps, F, hm, kp, b⟩ := c.ex
  exact pe_call F (hr.mono hk) hg hm kp b .nil pass0 ha hdb he hpl
theorem pe_mk0 (c : Mak X.prog X.w X.K X.mg X.base k x C sp) (hr : Room j X.A) (hk : k + 1 ≤ j) (hg : Gl X x)
    (hdb : (x == ("__debug__" : Str)) = false := by decide) : PE X (.Call (.Name x p) [] [] pos) (tMake C sp [] E0 tNil) := by
  obtain ⟨f, fd, ps, M, F, hm, b⟩ := c.ex
  exact pe_make0 M F (hr.mono hk) hg hm b .nil pass0 hdb
theorem pe_mt {pl : Sem Bool} (c : Met X.prog X.w X.K X.mg X.base k C m sp) (hr : Room j X.A) (hk : k ≤ j) (he : PE X o ta) (ha : PA X (e :: es) t)
    (hst : starEach (e :: es) X.env = (false, eval e X.env) :: starEach es X.env := by rfl) (hpl : (backTo pos (starEach es X.env)).any (·.1) = false := by rfl)
    (ht : eval (.Call (.Attribute o m apos) (e :: es) [] pos) X.env = (do
      let ov ← eval o X.env
      standAt apos.atName
      let (f, first) ← holding [ov] (getMethod ov m pl)
      callWith pos f first (backTo pos (starEach (e :: es) X.env)) (backToKw pos (keywordEach [] X.env))) := by rfl) :
    PE X (.Call (.Attribute o m apos) (e :: es) [] pos) (tMeth C m sp [] E0 ta t) := by
  obtain ⟨f, fd, ps, hc, hm, F, b⟩ := c.ex
  exact pe_meth (pl := pl) he hc hm F (hr.mono hk) b .nil pass0 ha hst hpl ht
theorem pe_mt0 {pl : Sem Bool} (c : Met X.prog X.w X.K X.mg X.base k C m sp) (hr : Room j X.A) (hk : k ≤ j) (he : PE X o ta)
    (ht : eval (.Call (.Attribute o m apos) [] [] pos) X.env = (do
      let ov ← eval o X.env
      standAt apos.atName
      let (f, first) ← holding [ov] (getMethod ov m pl)
      callWith pos f first (backTo pos (starEach [] X.env)) (backToKw pos (keywordEach [] X.env))) := by rfl) :
    PE X (.Call (.Attribute o m apos) [] [] pos) (tMeth C m sp [] E0 ta tNil) := by
  obtain ⟨f, fd, ps, hc, hm, F, b⟩ := c.ex
  exact pe_meth0 (pl := pl) he hc hm F (hr.mono hk) b .nil pass0 ht
/-- a whole number of the module -/
theorem pe_gi {n : Int} (hg : Gl X x) (h : ∃ t, X.mg x = some (.int n t)) (hd : (x == ("__debug__" : Str)) = false := by decide) : PE X (.Name x pos) (tC (.int n)) := by
  obtain ⟨u, hm⟩ := h
  exact pe_glob hg hm ⟨_, rfl⟩ hd
/-- an object of the module -/
theorem pe_gr {a : Addr} (hg : Gl X x) (h : X.mg x = some (.ref a)) (hd : (x == ("__debug__" : Str)) = false := by decide) : PE X (.Name x pos) (tC (.ref a)) :=
  pe_glob hg h rfl hd
/-- what is called is what an expression gives: a def by its address, with its promise -/
def tCallE (X : Cx) (j : Nat) (tf : TE) (t : TA) : TE := fun σ H Q => tf σ H fun y H1 => ∃ f sp, y = .ref f ∧ CalAt X.prog X.w X.K X.mg X.base j f sp ∧ t σ H1 fun vs H2 => sp vs H2 Q E0
theorem pe_callE {fe : Expr} {tf : TE} (hr : Room j X.A) (hf : PE X fe tf) (ha : PA X (e :: es) t)
    (ht : eval (.Call fe (e :: es) [] pos) X.env = (do callWith pos (← eval fe X.env) [] (backTo pos (starEach (e :: es) X.env)) (backToKw pos (keywordEach [] X.env))) := by rfl)
    (he : starEach (e :: es) X.env = (false, eval e X.env) :: starEach es X.env := by rfl) (hpl : (backTo pos (starEach es X.env)).any (·.1) = false := by rfl) : PE X (.Call fe (e :: es) [] pos) (tCallE X j tf t) := by
  refine ⟨fun pins s σ H Q I h => ?_⟩
  refine Call_ (thn (hf.run pins s σ H _ I h) fun u s1 ⟨y, H1, I1, ry, f, sp, ey, c, q⟩ => ?_) ht
  subst ey
  obtain rfl : u = Value.ref f := ry
  obtain ⟨ps, fd, b, kp, F⟩ := c.has
  refine PySem.W.callWith_K (h₀ := X.base) I.ok.mod.kin kp (thn (ha.run pos pins s1 σ H1 _ I1 q) fun us s2 ⟨vs, H2, I2, r, q2⟩ => ⟨I2.kIn, ?_⟩) he hpl
  exact run_fn (ds := []) (dvs := []) F hr b .nil pass0 I2 r (by rw [List.append_nil]; exact q2)
end
end Wt
/-! loops.py -/
namespace Wt
open PySem PySem.Spec PyProof.Rows L2
open Cm05 (firstIn)

def optV : Option Nat → V
  | none => .non
  | some k => .int (k : Int)

abbrev rModI : R2 := rI (fun _ j => 0 < j) fun i j => .int (i % j)
abbrev rSubI : R2 := rI0 fun i j => .int (i - j)
def spRU : Sp := fun vs H Q _ => ∃ (n d : Int), vs = [.int n, .int d] ∧ 0 < d ∧ d < 2 ^ 64 ∧ Q (.int ((n + d - 1) / d)) H
def spFM (f : Nat) : Sp := fun vs H Q _ => ∃ (s M lo hi : Nat), vs = [.int s, .int M, .int lo, .int hi] ∧ s < M ∧ 0 < lo ∧ lo ≤ hi ∧ hi < M ∧ M ≤ 2 ^ 32 ∧ Enough f s M ∧ Q (optV (firstIn f s M lo hi)) H

abbrev s_rounded_up : Stmt := topS 4
theorem sc_rounded_up : FnScope ["number", "divisor"] ["number", "divisor"] (defScope s_rounded_up) := ⟨rfl, rfl, rfl, by decide +kernel, rfl, by decide +kernel, by decide +kernel⟩
abbrev s_first_multiple : Stmt := topS 3
theorem sc_first_multiple : FnScope ["step", "size", "low", "high", "count", "wraps"] ["step", "size", "low", "high"] (defScope s_first_multiple) := ⟨rfl, rfl, rfl, by decide +kernel, rfl, by decide +kernel, by decide +kernel⟩

theorem neg_mod {M s : Nat} (hs : 0 < s) : -(M : Int) % (s : Int) = (((s - M % s) % s : Nat) : Int) := by
  have l := Nat.mod_lt M hs
  have e : (((s - M % s) % s : Nat) : Int) = ((s : Int) - ((M % s : Nat) : Int)) % (s : Int) := by
    rw [Int.natCast_emod, Int.ofNat_sub (by omega)]
  rw [e, Int.natCast_emod, Int.emod_eq_emod_iff_emod_sub_eq_zero]
  have d := Int.mul_ediv_add_emod (M : Int) (s : Int)
  have e2 : -(M : Int) - ((s : Int) - (M : Int) % (s : Int)) = (s : Int) * (-((M : Int) / (s : Int)) - 1) := by
    rw [Int.mul_sub, Int.mul_neg]
    omega
  rw [e2, Int.mul_emod_right]
section
variable {P : Program} {w : World} {K : PySem.W.Frag} {mg : Str → Option Value} {base : Heap}

theorem ok_rounded_up (D : Def K mg "rounded_up" s_rounded_up ["number", "divisor"]) : Cal P w K mg base 1 "rounded_up" spRU := by
  refine D.cal sc_rounded_up (fun vs H Q E h => ?_) (fun f cdv A outer s H vs Q E hr h => ?_)
  · obtain ⟨n, d, rfl, _⟩ := h
    rfl
  · obtain ⟨n, d, rfl, h0, h1, q⟩ := h
    refine ⟨_, (pss_one (ps_ret (pe_op op_fdivW (pe_op op_sub (pe_op op_add (pv 0) (pv 1)) pe_int) (pv 1)))), ?_⟩
    refine ⟨_, rfl, _, rfl, _, _, rfl, rfl, _, _, rfl, rfl, _, rfl, _, _, rfl, rfl, wide_div (b := 64) h0 (by omega) (by decide) (by decide), ?_⟩
    exact q

theorem ok_first_multiple (D : Def K mg "first_multiple" s_first_multiple ["step", "size", "low", "high"]) (C_rounded_up : Cal P w K mg base 1 "rounded_up" spRU) :
    ∀ f, Cal P w K mg base (f + 2) "first_multiple" (spFM f)
  | 0 => by
    refine D.cal sc_first_multiple (fun vs H Q E h => ?_) (fun f cdv A outer s H vs Q E hr h => ?_)
    · obtain ⟨n, d, l, h, rfl, _⟩ := h
      rfl
    · obtain ⟨n, d, l, h, rfl, h1, h2, h3, h4, h5, ⟨g, e1, e2⟩, _⟩ := h
      have g0 : g = 0 := by omega
      subst g0
      simp at e1
      omega
  | f + 1 => by
    have C_first_multiple := ok_first_multiple D C_rounded_up f
    refine D.cal sc_first_multiple (fun vs H Q E h => ?_) (fun fa cdv A outer st H vs Q E hr h => ?_)
    · obtain ⟨n, d, l, h, rfl, _⟩ := h
      rfl
    · obtain ⟨s, M, lo, hi, rfl, hs, h0, hl, hh, hM, ⟨g, e1, e2⟩, q⟩ := h
      have hr1 : Room 1 _ := hr.mono (by omega)
      refine ⟨_, (pss_cons (ps_if (pt_cmpR op_eq (pv 0) pe_int (nomark _))
          (pss_one (ps_ret pe_non))
          pss_nil)
        (pss_cons (ps_if (pt_cmpR op_gt (pe_op op_mul pe_int (pv 0)) (pv 1) (nomark _))
          (pss_one (ps_ret (pe_c C_first_multiple hr (Nat.le_refl _) (by rfl) (pa_cons (pe_op op_sub (pv 1) (pv 0)) (pa_cons (pv 1) (pa_cons (pe_op op_sub (pv 1) (pv 3)) (pa_cons (pe_op op_sub (pv 1) (pv 2)) pa_nil)))))))
          pss_nil)
        (pss_cons (ps_set (i := 4) sc_first_multiple.nd rfl (Or.inl rfl) (pe_c C_rounded_up hr1 (by decide) (by rfl) (pa_cons (pv 2) (pa_cons (pv 0) pa_nil))))
        (pss_cons (ps_if (pt_cmpR op_le (pe_op op_mul (pv 4) (pv 0)) (pv 3) (nomark _))
          (pss_one (ps_ret (pv 4)))
          pss_nil)
        (pss_cons (ps_set (i := 5) sc_first_multiple.nd rfl (Or.inl rfl) (pe_c C_first_multiple hr (Nat.le_refl _) (by rfl) (pa_cons (pe_op op_mod (pe_un un_neg (pv 1)) (pv 0)) (pa_cons (pv 0) (pa_cons (pe_op op_mod (pv 2) (pv 0)) (pa_cons (pe_op op_mod (pv 3) (pv 0)) pa_nil))))))
        (pss_cons (ps_if (pt_cmpR op_isN (pv 5) pe_non (nomark _))
          (pss_one (ps_ret pe_non))
          pss_nil)
        (pss_one (ps_ret (pe_c C_rounded_up hr1 (by decide) (by rfl) (pa_cons (pe_op op_add (pv 2) (pe_op op_mul (pv 5) (pv 1))) (pa_cons (pv 0) pa_nil))))))))))), ?_⟩
      unfold firstIn at q
      rw [if_neg (by omega)] at q
      -- if step == 0
      refine ⟨_, rfl, rfl, _, rfl, ite2 (fun e => ?_) (fun e => ?_)⟩
      · have e := V.int.inj (of_decide_eq_true e)
        rw [if_pos (by omega)] at q
        exact q
      have e : ¬ s = 0 := fun z => e (decide_eq_true (by rw [z]; rfl))
      rw [if_neg e] at q
      -- if 2 * step > size
      refine ⟨_, rfl, _, _, rfl, rfl, .inl ⟨by decide, by decide⟩, _, rfl, _, _, rfl, rfl, _, rfl, ite2 (fun c => ?_) (fun c => ?_)⟩
      · have c := of_decide_eq_true c
        have c2 : M < 2 * s := by omega
        rw [if_pos c2] at q e2
        refine ⟨_, rfl, _, rfl, _, _, rfl, rfl, _, rfl, _, rfl, _, rfl, _, _, rfl, rfl, _, rfl, _, rfl, _, _, rfl, rfl, ?_⟩
        refine ⟨M - s, M, M - hi, M - lo, ?_, by omega, by omega, by omega, by omega, hM, ⟨g, e1, ?_⟩, q⟩
        · rw [Int.ofNat_sub (by omega), Int.ofNat_sub (by omega), Int.ofNat_sub (by omega)]
          rfl
        · rw [if_neg (by omega)]
          omega
      have c2 : ¬ M < 2 * s := fun z => c (decide_eq_true (by omega))
      rw [if_neg c2] at q
      replace q : Q (optV (if (lo + s - 1) / s * s ≤ hi then some ((lo + s - 1) / s) else match firstIn f ((s - M % s) % s) s (lo % s) (hi % s) with
        | none => none
        | some y => some ((lo + M * y + s - 1) / s))) H := q
      have hs0 : 0 < s := by omega
      have up_cast : ∀ n : Nat, ((n : Int) + (s : Int) - 1) / (s : Int) = (((n + s - 1) / s : Nat) : Int) := fun n => by
        rw [Int.natCast_ediv]
        congr 1
        omega
      -- count = rounded_up(low, step)
      refine ⟨_, rfl, _, rfl, _, _, rfl, by omega, by omega, ?_⟩
      rw [up_cast]
      -- if count * step <= high
      refine ⟨_, rfl, _, rfl, _, _, rfl, rfl, .inr ⟨by omega, by omega⟩, _, rfl, _, _, rfl, rfl, _, rfl, ite2 (fun c => ?_) (fun c => ?_)⟩
      · have c := of_decide_eq_true c
        have c3 : (lo + s - 1) / s * s ≤ hi := by exact_mod_cast c
        rw [if_pos c3] at q
        exact ⟨_, rfl, q⟩
      have c3 : ¬ (lo + s - 1) / s * s ≤ hi := fun z => c (decide_eq_true (by exact_mod_cast z))
      rw [if_neg c3] at q
      have bl := block hs0 hl (by omega)
      -- wraps = first_multiple(..)
      refine ⟨_, rfl, _, rfl, _, rfl, _, _, rfl, rfl, by omega, _, rfl, _, rfl, _, rfl, _, _, rfl, rfl, by omega, _, rfl, _, rfl, _, _, rfl, rfl, by omega, ?_⟩
      refine ⟨(s - M % s) % s, s, lo % s, hi % s, ?_, Nat.mod_lt _ hs0, bl.2, ?_, Nat.mod_lt _ hs0, by omega, ?_, ?_⟩
      · dsimp only
        rw [neg_mod hs0]
        rfl
      · have a := Nat.div_add_mod lo s
        have b := Nat.div_add_mod hi s
        rw [← bl.1] at b
        omega
      · cases g with
        | zero => simp at e1; omega
        | succ g =>
          refine ⟨g, ?_, ?_⟩
          · rw [Nat.pow_succ] at e1
            omega
          · split <;> omega
      -- if wraps is None
      cases eo : firstIn f ((s - M % s) % s) s (lo % s) (hi % s) with
      | none =>
        rw [eo] at q
        exact ⟨_, rfl, rfl, _, rfl, iteT q⟩
      | some y =>
        rw [eo] at q
        refine ⟨_, rfl, rfl, _, rfl, iteF ?_⟩
        refine ⟨_, rfl, _, rfl, _, rfl, _, _, rfl, rfl, .inr ⟨by omega, by omega⟩, _, _, rfl, rfl, _, rfl, _, _, rfl, by omega, by omega, ?_⟩
        have ey : (lo : Int) + (y : Int) * (M : Int) = ((lo + M * y : Nat) : Int) := by
          rw [Nat.mul_comm]
          rfl
        rw [ey, up_cast]
        exact q
/-! first_landing, ending_words -/
def spFL : Sp := fun vs H Q _ => ∃ (M a s lo hi : Nat), vs = [.int a, .int s, .int lo, .int hi, .int M] ∧ a < M ∧ s < M ∧ lo ≤ hi ∧ hi < M ∧ M ≤ 2 ^ 32 ∧ Q (optV (Cm05.lands M a s lo hi)) H
abbrev s_first_landing : Stmt := topS 5
theorem sc_first_landing : FnScope ["start", "step", "low", "high", "size"] ["start", "step", "low", "high", "size"] (defScope s_first_landing) := ⟨rfl, rfl, rfl, by decide +kernel, rfl, by decide +kernel, by decide +kernel⟩
theorem sub_mod {M x a : Nat} (ha : a < M) : ((x : Int) - (a : Int)) % (M : Int) = (((x + M - a) % M : Nat) : Int) := by
  rw [Int.natCast_emod, Int.ofNat_sub (by omega), Int.natCast_add]
  rw [show (x : Int) + (M : Int) - (a : Int) = (x : Int) - (a : Int) + (M : Int) by omega, Int.add_emod_right]
theorem ok_first_landing (D : Def K mg "first_landing" s_first_landing ["start", "step", "low", "high", "size"]) (C_first_multiple : Cal P w K mg base 202 "first_multiple" (spFM Cm05.ROUNDS)) :
    Cal P w K mg base 203 "first_landing" spFL := by
  refine D.cal sc_first_landing (fun vs H Q E h => ?_) (fun fa cdv A outer st H vs Q E hr h => ?_)
  · obtain ⟨M, a, s, lo, hi, rfl, _⟩ := h
    rfl
  · obtain ⟨M, a, s, lo, hi, rfl, ha, hs, hl, hh, hM, q⟩ := h
    refine ⟨_, (pss_cons (ps_if (pt_chain op_le op_le (pv 2) (pv 0) (pv 3))
        (pss_one (ps_ret pe_int))
        pss_nil)
      (pss_one (ps_ret (pe_c C_first_multiple hr (by decide) (by rfl) (pa_cons (pv 1) (pa_cons (pv 4) (pa_cons (pe_op op_mod (pe_op op_sub (pv 2) (pv 0)) (pv 4)) (pa_cons (pe_op op_mod (pe_op op_sub (pv 3) (pv 0)) (pv 4)) pa_nil)))))))), ?_⟩
    unfold Cm05.lands at q
    have rest : ¬ (lo ≤ a ∧ a ≤ hi) → Q (optV (firstIn Cm05.ROUNDS (s % M) M ((lo + M - a) % M) ((hi + M - a) % M))) H → tRet (tCall (spFM Cm05.ROUNDS) [] E0 (tCons (tVar 1) (tCons (tVar 4) (tCons (tOp rModI (tOp rSubI (tVar 2) (tVar 0)) (tVar 4)) (tCons (tOp rModI (tOp rSubI (tVar 3) (tVar 0)) (tVar 4)) tNil)))))
        { nx := fun _ H' => Q .non H', rt := Q } (start ["start", "step", "low", "high", "size"] [.int a, .int s, .int lo, .int hi, .int M]) H := fun c q => by
      refine ⟨_, rfl, _, rfl, _, rfl, _, rfl, _, _, rfl, rfl, _, rfl, _, _, rfl, rfl, by omega, _, rfl, _, rfl, _, _, rfl, rfl, _, rfl, _, _, rfl, rfl, by omega, ?_⟩
      rw [Nat.mod_eq_of_lt hs] at q
      refine ⟨s, M, (lo + M - a) % M, (hi + M - a) % M, ?_, hs, ?_, ?_, Nat.mod_lt _ (by omega), hM, enough_rounds hM, q⟩
      · dsimp only
        rw [sub_mod ha, sub_mod ha]
        rfl
      · by_cases z : a < lo
        · rw [show lo + M - a = (lo - a) + M by omega, Nat.add_mod_right, Nat.mod_eq_of_lt (by omega)]
          omega
        · rw [Nat.mod_eq_of_lt (by omega)]
          omega
      · by_cases z : a < lo
        · rw [show lo + M - a = (lo - a) + M by omega, Nat.add_mod_right, Nat.mod_eq_of_lt (by omega), show hi + M - a = (hi - a) + M by omega, Nat.add_mod_right, Nat.mod_eq_of_lt (by omega)]
          omega
        · rw [Nat.mod_eq_of_lt (by omega), Nat.mod_eq_of_lt (by omega)]
          omega
    refine ⟨_, rfl, _, rfl, _, _, rfl, rfl, _, rfl, ite2 (fun c => ?_) (fun c => ?_)⟩
    · have c := of_decide_eq_true c
      refine ⟨_, rfl, _, _, rfl, rfl, _, rfl, ite2 (fun c2 => ?_) (fun c2 => ?_)⟩
      · have c2 := of_decide_eq_true c2
        rw [if_pos ⟨by omega, by omega⟩] at q
        exact q
      · have c2 : ¬ (lo ≤ a ∧ a ≤ hi) := fun z => c2 (decide_eq_true (by omega))
        rw [if_neg c2] at q
        exact rest c2 q
    · have c2 : ¬ (lo ≤ a ∧ a ≤ hi) := fun z => c (decide_eq_true (by omega))
      rw [if_neg c2] at q
      exact ⟨_, rfl, iteF (rest c2 q)⟩
end
end Wt
/-! A written dict of whole numbers. -/
namespace Wt
open PySem PySem.Spec PyProof.Rows L2

def IntsLit : List DictEntry → List (Int × Int) → Prop
  | [], [] => True
  | e :: r, p :: q => (∃ t u, e.key = .int p.1 t ∧ e.hash = hashInt p.1 ∧ e.val = .int p.2 u) ∧ IntsLit r q
  | _, _ => False
structure KInts (K : PySem.W.Frag) (d : Addr) (ps : List (Int × Int)) : Prop where
  ex : ∃ (es : Array DictEntry) (n : Nat), K.lookup d = some ⟨.type "dict", none, .dict es n, #[]⟩ ∧ IntsLit es.toList ps
  low : (d == sysModules) = false
theorem IntsLit.keys : ∀ {l : List DictEntry} {ps : List (Int × Int)}, IntsLit l ps → ∀ e ∈ l, ∃ k t, e.key = .int k t ∧ e.hash = hashInt k
  | [], _, _, e, he => by cases he
  | e :: r, [], h, _, _ => h.elim
  | e :: r, p :: q, ⟨⟨t, u, h1, h2, _⟩, hr⟩, e', he => by
    rcases List.mem_cons.mp he with rfl | he
    · exact ⟨_, t, h1, h2⟩
    · exact hr.keys e' he
theorem IntsLit.find : ∀ {l : List DictEntry} {ps : List (Int × Int)}, IntsLit l ps → ∀ k : Int, match ps.lookup k with
    | none => l.find? (fun e => Value.isInt k e.key) = none
    | some v => ∃ u, (l.find? (fun e => Value.isInt k e.key)).map (·.val) = some (.int v u)
  | [], [], _, k => rfl
  | [], _ :: _, h, k => h.elim
  | e :: r, [], h, _ => h.elim
  | e :: r, (a, b) :: q, ⟨⟨t, u, h1, h2, h3⟩, hr⟩, k => by
    have ih := hr.find k
    simp only [List.lookup, List.find?, h1, Value.isInt]
    by_cases c : k = a
    · subst c
      simp only [beq_self_eq_true, Option.map_some, h3]
      exact ⟨u, rfl⟩
    · have c1 : (k == a) = false := by simpa using c
      have c2 : (a == k) = false := by simpa using fun z : a = k => c z.symm
      rw [c1, c2]
      exact ih
section
variable {X : Cx} {d : Addr} {ps : List (Int × Int)}
theorem KInts.map {prog : Program} {w : World} {K : PySem.W.Frag} {h : Heap} (D : KInts K d ps) (KX : K.In h) : ∃ f : Int → Option Value, h.MapOf (intKind prog w) d f ∧ ∀ k, match ps.lookup k with
    | none => f k = none
    | some v => ∃ u, f k = some (.int v u) := by
  obtain ⟨es, n, hl, hi⟩ := D.ex
  refine ⟨fun k => findBy Value.isInt es k, ⟨_, es, n, KX _ _ hl, ⟨rfl, rfl, rfl⟩, rfl, fun e he => ?_, fun _ => rfl⟩, fun k => ?_⟩
  · obtain ⟨k, t, h1, h2⟩ := hi.keys e (Array.mem_toList_iff.mpr he)
    exact ⟨k, by rw [h1]; simp [intKind, Value.isInt], h2⟩
  · have q := hi.find k
    obtain ⟨l⟩ := es
    have ef : findBy Value.isInt ⟨l⟩ k = (l.find? (fun e => Value.isInt k e.key)).map (·.val) := by
      unfold findBy
      rw [List.find?_toArray]
    show match ps.lookup k with
      | none => findBy Value.isInt ⟨l⟩ k = none
      | some v => ∃ u, findBy Value.isInt ⟨l⟩ k = some (.int v u)
    rw [ef]
    cases e : ps.lookup k with
    | none => rw [e] at q; dsimp only at q ⊢; rw [show (List.find? (fun e => Value.isInt k e.key) l) = none from q]; rfl
    | some v => rw [e] at q; exact q
theorem op_in_kint (D : KInts X.K d ps) : OpR X (compareOp .In) (fun x y H Q => ∃ i, x = .int i ∧ y = .ref d ∧ Q (.bl (ps.lookup i).isSome) H) := by
  intro pins s σ H x y v u Q I rx ry h
  obtain ⟨i, rfl, rfl, q⟩ := h
  obtain ⟨t, rfl⟩ := rx
  cases ry
  obtain ⟨f, hm, hf⟩ := D.map (prog := X.prog) (w := X.w) I.kIn
  refine wpAny_in_of (PySem.intKind_is X.prog X.w i t) D.low hm ?_
  have e : (f i).isSome = (ps.lookup i).isSome := by
    have z := hf i
    cases e : ps.lookup i with
    | none => rw [e] at z; rw [show f i = none from z]; rfl
    | some b => rw [e] at z; obtain ⟨u, z⟩ := z; rw [z]; rfl
  rw [e]
  exact ⟨.bl _, H, I.tok _, rfl, q⟩
theorem ix_kint (D : KInts X.K d ps) : IxR X (fun x y H Q => ∃ i v, x = .ref d ∧ y = .int i ∧ ps.lookup i = some v ∧ Q (.int v) H) := by
  intro value slice pins s σ H x y v u Q I rx ry h hs
  obtain ⟨i, r, rfl, rfl, e, q⟩ := h
  obtain rfl : v = Value.ref d := rx
  obtain ⟨t, rfl⟩ := ry
  obtain ⟨f, hm, hf⟩ := D.map (prog := X.prog) (w := X.w) I.kIn
  have z := hf i
  rw [e] at z
  obtain ⟨u, z⟩ := z
  exact tail_any hm.typeIs slot_dict_getitem.lookup (wpAny_getItem_of (PySem.intKind_is X.prog X.w i t) hm z ⟨.int r, H, I.tok _, ⟨_, rfl⟩, q⟩) hs
end
end Wt
/-! loops.py, second part -/
namespace Wt
open PySem PySem.Spec PyProof.Rows L2

theorem same_upd {H : Hp} {p : Addr} {o : HO} (h : H p = none) : Same H (upd H p o) := fun b x e => by
  rw [upd_ne (ne_of_none e h)]
  exact e
theorem dec_ne {i j : Int} (h : ¬ i = j) : decide (V.int i = V.int j) = false := decide_eq_false fun z => h (V.int.inj z)
theorem dec_eq {i j : Int} (h : i = j) : decide (V.int i = V.int j) = true := decide_eq_true (by rw [h])

def ends (r b M : Int) : Int × Int := if r = 0 then (b, M - 1) else if r = 1 then (b + 1, M - 1) else if r = 2 then (b, b) else if r = 3 then (0, b) else (0, b - 1)
def spEW : Sp := fun vs H Q _ => ∃ (r b M : Int), vs = [.int r, .int b, .int M] ∧ ∀ p, H p = none → Q (.ref p) (upd H p (.tup [.int (ends r b M).1, .int (ends r b M).2]))
def spLT (top : Nat) : Sp := fun vs H Q _ => ∃ (n r a s b : Nat), vs = [.int r, .int a, .int s, .int b, .int (2 ^ n : Nat)] ∧ 1 ≤ n ∧ n ≤ 32 ∧ r ≤ top ∧ r ≤ 8 ∧ a < 2 ^ n ∧ s < 2 ^ n ∧ b < 2 ^ n ∧
  ∀ H', Same H H' → Q (optV (Cm05.turns n r a s b)) H'
def signs : List (Int × Int) := [(5, 0), (6, 1), (7, 3), (8, 4)]

abbrev s_ending_words : Stmt := topS 6
theorem sc_ending_words : FnScope ["relation", "bound", "size"] ["relation", "bound", "size"] (defScope s_ending_words) := ⟨rfl, rfl, rfl, by decide +kernel, rfl, by decide +kernel, by decide +kernel⟩
abbrev s_loop_turns : Stmt := topS 7
theorem sc_loop_turns : FnScope ["relation", "start", "step", "bound", "size", "half", "ends"] ["relation", "start", "step", "bound", "size"] (defScope s_loop_turns) := ⟨rfl, rfl, rfl, by decide +kernel, rfl, by decide +kernel, by decide +kernel⟩

theorem signs_none {r : Nat} (h : r ≤ 4) : signs.lookup (r : Int) = none := by
  have : r = 0 ∨ r = 1 ∨ r = 2 ∨ r = 3 ∨ r = 4 := by omega
  rcases this with rfl | rfl | rfl | rfl | rfl <;> rfl
theorem signs_some {r : Nat} (h : ¬ r ≤ 4) (h8 : r ≤ 8) : signs.lookup (r : Int) = some ((([0, 1, 3, 4].getD (r - 5) 0 : Nat)) : Int) := by
  have : r = 5 ∨ r = 6 ∨ r = 7 ∨ r = 8 := by omega
  rcases this with rfl | rfl | rfl | rfl <;> rfl
theorem getD4 {r : Nat} : [0, 1, 3, 4].getD (r - 5) 0 ≤ 4 := by
  have : r - 5 = 0 ∨ r - 5 = 1 ∨ r - 5 = 2 ∨ r - 5 = 3 ∨ 4 ≤ r - 5 := by omega
  rcases this with h | h | h | h | h
  · rw [h]; decide
  · rw [h]; decide
  · rw [h]; decide
  · rw [h]; decide
  · rw [List.getD_eq_getElem?_getD, List.getElem?_eq_none (by simpa using h)]; decide
/-- the stretch of the specification's relation -/
theorem ends_stops {M r b : Nat} (hM : 0 < M) (hb : b < M) (hr : r ≤ 4) : match Cm05.stopsAt M r b with
    | none => (ends r b M).2 < (ends r b M).1
    | some q => (ends r b M) = ((q.1 : Int), (q.2 : Int)) ∧ q.1 ≤ q.2 ∧ q.2 < M := by
  have : r = 0 ∨ r = 1 ∨ r = 2 ∨ r = 3 ∨ r = 4 := by omega
  rcases this with rfl | rfl | rfl | rfl | rfl
  · show ((b : Int), (M : Int) - 1) = ((b : Int), ((M - 1 : Nat) : Int)) ∧ _
    refine ⟨?_, by show b ≤ M - 1; omega, by show M - 1 < M; omega⟩
    rw [Int.ofNat_sub (by omega)]; rfl
  · unfold Cm05.stopsAt
    by_cases c : b + 1 = M
    · simp only [c, if_true]
      show (M : Int) - 1 < (b : Int) + 1
      omega
    · simp only [c, if_false]
      refine ⟨?_, by show b + 1 ≤ M - 1; omega, by show M - 1 < M; omega⟩
      show ((b : Int) + 1, (M : Int) - 1) = (((b + 1 : Nat) : Int), ((M - 1 : Nat) : Int))
      rw [Int.ofNat_sub (by omega)]; rfl
  · exact ⟨rfl, Nat.le_refl _, hb⟩
  · exact ⟨rfl, Nat.zero_le _, hb⟩
  · unfold Cm05.stopsAt
    by_cases c : b = 0
    · subst c
      show (0 : Int) - 1 < 0
      omega
    · simp only [c, if_false]
      refine ⟨?_, Nat.zero_le _, by show b - 1 < M; omega⟩
      show ((0 : Int), (b : Int) - 1) = (((0 : Nat) : Int), ((b - 1 : Nat) : Int))
      rw [Int.ofNat_sub (by omega)]; rfl

section
variable {P : Program} {w : World} {K : PySem.W.Frag} {mg : Str → Option Value} {base : Heap}
theorem ok_ending_words (D : Def K mg "ending_words" s_ending_words ["relation", "bound", "size"]) : Cal P w K mg base 1 "ending_words" spEW := by
  refine D.cal sc_ending_words (fun vs H Q E h => ?_) (fun fa cdv A outer st H vs Q E hr h => ?_)
  · obtain ⟨r, b, M, rfl, _⟩ := h
    rfl
  · obtain ⟨r, b, M, rfl, q⟩ := h
    refine ⟨_, (pss_cons (ps_if (pt_cmpR op_eq (pv 0) pe_int (nomark _))
      (pss_one (ps_ret (pe_tup (pa_cons (pv 1) (pa_cons (pe_op op_sub (pv 2) pe_int) pa_nil)))))
      pss_nil)
    (pss_cons (ps_if (pt_cmpR op_eq (pv 0) pe_int (nomark _))
      (pss_one (ps_ret (pe_tup (pa_cons (pe_op op_add (pv 1) pe_int) (pa_cons (pe_op op_sub (pv 2) pe_int) pa_nil)))))
      pss_nil)
    (pss_cons (ps_if (pt_cmpR op_eq (pv 0) pe_int (nomark _))
      (pss_one (ps_ret (pe_tup (pa_cons (pv 1) (pa_cons (pv 1) pa_nil)))))
      pss_nil)
    (pss_cons (ps_if (pt_cmpR op_eq (pv 0) pe_int (nomark _))
      (pss_one (ps_ret (pe_tup (pa_cons pe_int (pa_cons (pv 1) pa_nil)))))
      pss_nil)
    (pss_one (ps_ret (pe_tup (pa_cons pe_int (pa_cons (pe_op op_sub (pv 1) pe_int) pa_nil))))))))), ?_⟩
    unfold ends at q
    refine ⟨_, rfl, rfl, _, rfl, ite2 (fun e => ?_) (fun e => ?_)⟩
    · have e := V.int.inj (of_decide_eq_true e)
      rw [if_pos e] at q
      exact ⟨_, rfl, _, rfl, _, _, rfl, rfl, by show 2 ≤ sizeLine; decide, q⟩
    have e : ¬ r = 0 := fun z => e (dec_eq z)
    rw [if_neg e] at q
    refine ⟨_, rfl, rfl, _, rfl, ite2 (fun e => ?_) (fun e => ?_)⟩
    · have e := V.int.inj (of_decide_eq_true e)
      rw [if_pos e] at q
      exact ⟨_, rfl, _, _, rfl, rfl, _, rfl, _, _, rfl, rfl, by show 2 ≤ sizeLine; decide, q⟩
    have e : ¬ r = 1 := fun z => e (dec_eq z)
    rw [if_neg e] at q
    refine ⟨_, rfl, rfl, _, rfl, ite2 (fun e => ?_) (fun e => ?_)⟩
    · have e := V.int.inj (of_decide_eq_true e)
      rw [if_pos e] at q
      exact ⟨_, rfl, _, rfl, by show 2 ≤ sizeLine; decide, q⟩
    have e : ¬ r = 2 := fun z => e (dec_eq z)
    rw [if_neg e] at q
    refine ⟨_, rfl, rfl, _, rfl, ite2 (fun e => ?_) (fun e => ?_)⟩
    · have e := V.int.inj (of_decide_eq_true e)
      rw [if_pos e] at q
      exact ⟨_, rfl, by show 2 ≤ sizeLine; decide, q⟩
    have e : ¬ r = 3 := fun z => e (dec_eq z)
    rw [if_neg e] at q
    exact ⟨_, rfl, _, _, rfl, rfl, by show 2 ≤ sizeLine; decide, q⟩

theorem ok_loop_none (D : Def K mg "loop_turns" s_loop_turns ["relation", "start", "step", "bound", "size"]) : Cal P w K mg base 1 "loop_turns" (fun _ _ _ _ => False) :=
  D.cal sc_loop_turns (fun vs H Q E h => h.elim) (fun fa cdv A outer st H vs Q E hr h => h.elim)
theorem ok_loop_step (D : Def K mg "loop_turns" s_loop_turns ["relation", "start", "step", "bound", "size"]) (C_ending_words : Cal P w K mg base 1 "ending_words" spEW) (C_first_landing : Cal P w K mg base 203 "first_landing" spFL)
    {d : Addr} (c_WITHOUT_SIGNS : mg "WITHOUT_SIGNS" = some (.ref d)) (kd : KInts K d signs) {k j top : Nat} {spR : Sp} (C_loop_turns : Cal P w K mg base k "loop_turns" spR) (hj : 203 ≤ j) (hk : k ≤ j) (hrec : top ≤ 4 ∨ spR = spLT 4) :
    Cal P w K mg base (j + 1) "loop_turns" (spLT top) := by
  refine D.cal sc_loop_turns (fun vs H Q E h => ?_) (fun fa cdv A outer st H vs Q E hr h => ?_)
  · obtain ⟨n, r, a, s, b, rfl, _⟩ := h
    rfl
  · obtain ⟨n, r, a, s, b, rfl, hn, hn32, hrt, hr8, ha, hs, hb, q⟩ := h
    refine ⟨_, (pss_cons (ps_if (pt_cmpR (op_in_kint kd) (pv 0) (pe_gr (by rfl) c_WITHOUT_SIGNS) (by rfl))
      (pss_cons (ps_set (i := 5) sc_loop_turns.nd rfl (Or.inl rfl) (pe_op op_fdivW (pv 4) pe_int))
    (pss_one (ps_ret (pe_c C_loop_turns hr hk (by rfl) (pa_cons (pe_ix (ix_kint kd) (pe_gr (by rfl) c_WITHOUT_SIGNS) (pv 0) (fun _ _ => rfl)) (pa_cons (pe_op op_mod (pe_op op_add (pv 1) (pv 5)) (pv 4)) (pa_cons (pv 2) (pa_cons (pe_op op_mod (pe_op op_add (pv 3) (pv 5)) (pv 4)) (pa_cons (pv 4) pa_nil)))))))))
      pss_nil)
    (pss_cons (ps_set (i := 6) sc_loop_turns.nd rfl (Or.inl rfl) (pe_c C_ending_words hr (by omega) (by rfl) (pa_cons (pv 0) (pa_cons (pv 3) (pa_cons (pv 4) pa_nil)))))
    (pss_cons (ps_if (pt_cmpR op_gt (pe_ix ix_tup (pv 6) pe_int (fun _ _ => rfl)) (pe_ix ix_tup (pv 6) pe_int (fun _ _ => rfl)) (nomark _))
      (pss_one (ps_ret pe_non))
      pss_nil)
    (pss_one (ps_ret (pe_c C_first_landing hr hj (by rfl) (pa_cons (pv 1) (pa_cons (pv 2) (pa_cons (pe_ix ix_tup (pv 6) pe_int (fun _ _ => rfl)) (pa_cons (pe_ix ix_tup (pv 6) pe_int (fun _ _ => rfl)) (pa_cons (pv 4) pa_nil))))))))))), ?_⟩
    have hM : 0 < 2 ^ n := Nat.two_pow_pos n
    have hM32 : 2 ^ n ≤ 2 ^ 32 := Nat.pow_le_pow_right (by decide) hn32
    unfold Cm05.turns at q
    by_cases c : r ≤ 4
    · -- a plain relation
      refine ⟨_, rfl, _, rfl, rfl, _, rfl, ?_⟩
      rw [signs_none c]
      refine iteF ?_
      rw [if_pos (by omega)] at q
      unfold Cm05.turnsPlain at q
      refine ⟨_, rfl, _, rfl, _, rfl, _, _, _, rfl, fun p np => ?_⟩
      have st := ends_stops hM hb c
      have sm := same_upd (o := .tup [.int (ends r b (2 ^ n : Nat)).1, .int (ends r b (2 ^ n : Nat)).2]) np
      have sq : SqT K (upd H p (.tup [.int (ends r b (2 ^ n : Nat)).1, .int (ends r b (2 ^ n : Nat)).2])) p [.int (ends r b (2 ^ n : Nat)).1, .int (ends r b (2 ^ n : Nat)).2] := SqT.of upd_same
      refine ⟨_, rfl, p, _, 0, _, rfl, rfl, sq, atI_nat (j := 0) rfl, _, rfl, p, _, 1, _, rfl, rfl, sq, atI_nat (j := 1) rfl, _, _, rfl, rfl, _, rfl, ?_⟩
      cases eo : Cm05.stopsAt (2 ^ n) r b with
      | none =>
        rw [eo] at st q
        rw [decide_eq_true (show (ends r b (2 ^ n : Nat)).2 < (ends r b (2 ^ n : Nat)).1 from st)]
        exact iteT (q _ sm)
      | some z =>
        rw [eo] at st q
        obtain ⟨st1, st2, st3⟩ := st
        rw [st1]
        rw [st1] at sq sm
        rw [decide_eq_false (show ¬ (z.2 : Int) < (z.1 : Int) by omega)]
        refine iteF ?_
        refine ⟨_, rfl, _, rfl, _, rfl, p, _, 0, _, rfl, rfl, sq, atI_nat (j := 0) rfl, _, rfl, p, _, 1, _, rfl, rfl, sq, atI_nat (j := 1) rfl, _, rfl, ?_⟩
        exact ⟨2 ^ n, a, s, z.1, z.2, rfl, ha, hs, st2, st3, hM32, q _ sm⟩
    · -- with signs
      have hR : spR = spLT 4 := by
        rcases hrec with h | h
        · omega
        · exact h
      subst hR
      refine ⟨_, rfl, _, rfl, rfl, _, rfl, ?_⟩
      rw [signs_some c hr8]
      refine iteT ?_
      rw [if_neg (by omega)] at q
      have hh : (2 ^ n : Nat) = 2 * 2 ^ (n - 1) := by
        rw [← Nat.pow_succ']
        congr 1
        omega
      have half : ((2 ^ n : Nat) : Int) / 2 = ((2 ^ (n - 1) : Nat) : Int) := by
        rw [hh]
        omega
      refine ⟨_, rfl, _, _, rfl, rfl, wide_div (b := 2) (by decide) (by decide) (by decide) (by decide), ?_⟩
      dsimp only
      rw [half]
      refine ⟨_, rfl, _, _, rfl, rfl, signs_some c hr8, _, rfl, _, rfl, _, _, rfl, rfl, _, rfl, _, _, rfl, rfl, by omega, _, rfl, _, rfl, _, rfl, _, _, rfl, rfl, _, rfl, _, _, rfl, rfl, by omega, _, rfl, ?_⟩
      refine ⟨n, [0, 1, 3, 4].getD (r - 5) 0, (a + 2 ^ (n - 1)) % 2 ^ n, s, (b + 2 ^ (n - 1)) % 2 ^ n, ?_, hn, hn32, getD4, Nat.le_trans getD4 (by decide), Nat.mod_lt _ hM, hs, Nat.mod_lt _ hM, ?_⟩
      · dsimp only
        rw [Int.natCast_emod, Int.natCast_emod]
        rfl
      · intro H' sm
        unfold Cm05.turns
        rw [if_pos (Nat.lt_succ_of_le getD4)]
        exact q H' sm
theorem ok_loop_turns (D : Def K mg "loop_turns" s_loop_turns ["relation", "start", "step", "bound", "size"]) (C_ending_words : Cal P w K mg base 1 "ending_words" spEW) (C_first_landing : Cal P w K mg base 203 "first_landing" spFL)
    {d : Addr} (c_WITHOUT_SIGNS : mg "WITHOUT_SIGNS" = some (.ref d)) (kd : KInts K d signs) : Cal P w K mg base 205 "loop_turns" (spLT 8) := by
  have C1 := ok_loop_step D C_ending_words C_first_landing c_WITHOUT_SIGNS kd (j := 203) (top := 4) (ok_loop_none D) (by decide) (by decide) (.inl (by decide))
  exact ok_loop_step D C_ending_words C_first_landing c_WITHOUT_SIGNS kd (j := 204) (top := 8) C1 (by decide) (by decide) (.inr rfl)
end
end Wt
/-! rows.py -/
namespace Wt
open PySem PySem.Spec PyProof.Rows L2

abbrev s_common_divisor : Stmt := topS 9
theorem sc_common_divisor : FnScope ["first", "second", "rest"] ["first", "second"] (defScope s_common_divisor) := ⟨rfl, rfl, rfl, by decide +kernel, rfl, by decide +kernel, by decide +kernel⟩
abbrev s_meetings : Stmt := topS 10
theorem sc_meetings : FnScope ["start", "step", "other_start", "other_step", "length", "wanted", "j", "k", "divisor", "between_j", "between_k", "missing", "more"] ["start", "step", "other_start", "other_step", "length"] (defScope s_meetings) := ⟨rfl, rfl, rfl, by decide +kernel, rfl, by decide +kernel, by decide +kernel⟩
abbrev s_least_apart : Stmt := topS 11
theorem sc_least_apart : FnScope ["start", "step", "other_start", "other_step", "length", "found", "growth"] ["start", "step", "other_start", "other_step", "length"] (defScope s_least_apart) := ⟨rfl, rfl, rfl, by decide +kernel, rfl, by decide +kernel, by decide +kernel⟩
abbrev s_least_not_below_nought : Stmt := topS 12
theorem sc_least_not_below_nought : FnScope ["first", "growth", "count", "needed"] ["first", "growth", "count"] (defScope s_least_not_below_nought) := ⟨rfl, rfl, rfl, by decide +kernel, rfl, by decide +kernel, by decide +kernel⟩

def spGcd : Sp := fun vs H Q _ => ∃ x y : Nat, vs = [.int x, .int y] ∧ Q (.int (Nat.gcd x y : Nat)) H
def spMt : Sp := fun vs H Q _ => ∃ a s b t n : Nat, vs = [.int a, .int s, .int b, .int t, .int n] ∧ 0 < s ∧ 0 < t ∧ 0 < n ∧ s ≤ 1000000 ∧ t ≤ 1000000 ∧ (Cm05.meets a s b t n = none → Q .non H) ∧
  ∀ r : Nat × Nat × Nat, Cm05.meets a s b t n = some r → ∀ p, H p = none → Q (.ref p) (upd H p (.tup [.int r.1, .int r.2.1, .int r.2.2]))
def optI : Option Int → V
  | none => .non
  | some k => .int k
theorem optI_nat (o : Option Nat) : optI (o.map fun z : Nat => (z : Int)) = optV o := by
  cases o <;> rfl
def spLNB : Sp := fun vs H Q _ => ∃ (d q : Int) (m : Nat), vs = [.int d, .int q, .int m] ∧ 0 < m ∧ q < 2 ^ 40 ∧ -(2 ^ 40) < q ∧ Q (optI (lnb d q m)) H
def spLA : Sp := fun vs H Q _ => ∃ a s b t n : Nat, vs = [.int a, .int s, .int b, .int t, .int n] ∧ 0 < s ∧ 0 < t ∧ 0 < n ∧ s ≤ 1000000 ∧ t ≤ 1000000 ∧ ∀ H', Same H H' → Q (optV (Cm05.apart a s b t n)) H'

section
variable {P : Program} {w : World} {K : PySem.W.Frag} {mg : Str → Option Value} {base : Heap}
theorem ok_common_divisor (D : Def K mg "common_divisor" s_common_divisor ["first", "second"]) : Cal P w K mg base 1 "common_divisor" spGcd := by
  refine D.cal sc_common_divisor (fun vs H Q E h => ?_) (fun fa cdv A outer st H vs Q E hr h => ?_)
  · obtain ⟨x, y, rfl, _⟩ := h
    rfl
  · obtain ⟨x, y, rfl, q⟩ := h
    refine ⟨_, (pss_cons (ps_while PassesOwn.never (pt_cmpR op_gt (pv 1) pe_int (nomark _))
      (pss_cons (ps_set (i := 2) sc_common_divisor.nd rfl (Or.inl rfl) (pe_op op_mod (pv 0) (pv 1)))
    (pss_cons (ps_set (i := 0) sc_common_divisor.nd rfl (Or.inl rfl) (pv 1))
    (pss_one (ps_set (i := 1) sc_common_divisor.nd rfl (Or.inl rfl) (pv 2))))))
    (pss_one (ps_ret (pv 0)))), ?_⟩
    refine ⟨fun m σ H' => H' = H ∧ ∃ (x' : Nat) (v : Option V), Nat.gcd x' m = Nat.gcd x y ∧ σ = [some (.int x'), some (.int m), v], ⟨y, rfl, x, none, rfl, rfl⟩, ?_⟩
    rintro m σ H' ⟨rfl, x', v, hg, rfl⟩
    refine ⟨_, rfl, _, _, rfl, rfl, _, rfl, ite2 (fun g => ?_) (fun g => ?_)⟩
    · have g : (0 : Int) < (m : Int) := of_decide_eq_true g
      refine ⟨fun σ' H2 => ∃ m', m' < m ∧ (H2 = H' ∧ ∃ (x' : Nat) (v : Option V), Nat.gcd x' m' = Nat.gcd x y ∧ σ' = [some (.int x'), some (.int m'), v]), fun _ _ h => h, ?_⟩
      refine ⟨_, rfl, _, rfl, _, _, rfl, rfl, by omega, ?_⟩
      refine ⟨_, rfl, _, rfl, x' % m, Nat.mod_lt _ (by omega), rfl, m, _, ?_, rfl⟩
      rw [← hg, Nat.gcd_comm m, ← Nat.gcd_rec, Nat.gcd_comm]
    · have g : ¬ (0 : Int) < (m : Int) := fun t => g (decide_eq_true t)
      have m0 : m = 0 := by omega
      subst m0
      rw [Nat.gcd_zero_right] at hg
      refine ⟨_, rfl, ?_⟩
      rw [hg]
      exact q

theorem up_cast {k : Int} {q : Nat} (hk : k < 0) (hq : 0 < q) : (-k + (q : Int) - 1) / (q : Int) = ((missed k q : Nat) : Int) := by
  unfold missed
  rw [if_pos hk, Int.natCast_ediv, Int.ofNat_sub (by omega), Int.natCast_add, Int.toNat_of_nonneg (by omega)]
  rfl
theorem ok_meetings (b_min : mg "min" = none) (D : Def K mg "meetings" s_meetings ["start", "step", "other_start", "other_step", "length"]) (C_first_landing : Cal P w K mg base 203 "first_landing" spFL) (C_rounded_up : Cal P w K mg base 1 "rounded_up" spRU) (C_common_divisor : Cal P w K mg base 1 "common_divisor" spGcd) :
    Cal P w K mg base 204 "meetings" spMt := by
  refine D.cal sc_meetings (fun vs H Q E h => ?_) (fun fa cdv A outer st H vs Q E hr h => ?_)
  · obtain ⟨a, s, b, t, n, rfl, _⟩ := h
    rfl
  · obtain ⟨a, s, b, t, n, rfl, hs, ht, hn, hs6, ht6, qN, qS⟩ := h
    refine ⟨_, (pss_cons (ps_set (i := 5) sc_meetings.nd rfl (Or.inl rfl) (pe_op op_mod (pv 2) (pv 3)))
    (pss_cons (ps_set (i := 6) sc_meetings.nd rfl (Or.inl rfl) (pe_c C_first_landing hr (by decide) (by rfl) (pa_cons (pe_op op_mod (pv 0) (pv 3)) (pa_cons (pe_op op_mod (pv 1) (pv 3)) (pa_cons (pv 5) (pa_cons (pv 5) (pa_cons (pv 3) pa_nil)))))))
    (pss_cons (ps_if (pt_cmpR op_isN (pv 6) pe_non (nomark _))
      (pss_one (ps_ret pe_non))
      pss_nil)
    (pss_cons (ps_set (i := 7) sc_meetings.nd rfl (Or.inl rfl) (pe_op op_fdivW (pe_op op_sub (pe_op op_add (pv 0) (pe_op op_mul (pv 6) (pv 1))) (pv 2)) (pv 3)))
    (pss_cons (ps_set (i := 8) sc_meetings.nd rfl (Or.inl rfl) (pe_c C_common_divisor hr (by decide) (by rfl) (pa_cons (pv 1) (pa_cons (pv 3) pa_nil))))
    (pss_cons (ps_set (i := 9) sc_meetings.nd rfl (Or.inl rfl) (pe_op op_fdivW (pv 3) (pv 8)))
    (pss_cons (ps_set (i := 10) sc_meetings.nd rfl (Or.inl rfl) (pe_op op_fdivW (pv 1) (pv 8)))
    (pss_cons (ps_if (pt_cmpR op_lt (pv 7) pe_int (nomark _))
      (pss_cons (ps_set (i := 11) sc_meetings.nd rfl (Or.inl rfl) (pe_c C_rounded_up hr (by decide) (by rfl) (pa_cons (pe_un un_neg (pv 7)) (pa_cons (pv 10) pa_nil))))
    (pss_cons (ps_set (i := 6) sc_meetings.nd rfl (Or.inl rfl) (pe_op op_add (pv 6) (pe_op op_mul (pv 11) (pv 9))))
    (pss_one (ps_set (i := 7) sc_meetings.nd rfl (Or.inl rfl) (pe_op op_add (pv 7) (pe_op op_mul (pv 11) (pv 10)))))))
      pss_nil)
    (pss_cons (ps_if (PW.pt (pw_or (pt_cmpR op_ge (pv 6) (pv 4) (nomark _)) (pw_or1 (pt_cmpR op_ge (pv 7) (pv 4) (nomark _)))))
      (pss_one (ps_ret pe_non))
      pss_nil)
    (pss_cons (ps_set (i := 12) sc_meetings.nd rfl (Or.inl rfl) (pe_callB (call_min2 rfl) (by rfl) b_min (by decide +kernel) (pa_cons (pe_op op_fdivW (pe_op op_sub (pe_op op_sub (pv 4) pe_int) (pv 6)) (pv 9)) (pa_cons (pe_op op_fdivW (pe_op op_sub (pe_op op_sub (pv 4) pe_int) (pv 7)) (pv 10)) pa_nil))))
    (pss_one (ps_ret (pe_tup (pa_cons (pe_op op_add pe_int (pv 12)) (pa_cons (pv 6) (pa_cons (pv 7) pa_nil)))))))))))))))), ?_⟩
    rw [meets_by hs ht hn (by omega)] at qN qS
    unfold pmeets at qN qS
    have ll := fun j => lands_lt (a := a) (s := s) (b := b) (j := j) ht (by omega)
    have tp : (0 : Int) < (t : Int) := by omega
    have la := Nat.mod_lt a ht
    have ls := Nat.mod_lt s ht
    have lb := Nat.mod_lt b ht
    refine ⟨_, rfl, _, rfl, _, _, rfl, rfl, tp, ?_⟩
    refine ⟨_, rfl, _, rfl, _, _, rfl, rfl, tp, _, rfl, _, rfl, _, _, rfl, rfl, tp, _, rfl, _, rfl, _, rfl, ?_⟩
    refine ⟨t, a % t, s % t, b % t, b % t, rfl, la, ls, Nat.le_refl _, lb, by omega, ?_⟩
    cases ho : Cm05.lands t (a % t) (s % t) (b % t) (b % t) with
    | none =>
      rw [ho] at qN
      exact ⟨_, rfl, rfl, _, rfl, iteT (qN rfl)⟩
    | some j0 =>
      rw [ho] at qN qS
      have hj0 := ll j0 ho
      dsimp only [Option.bind] at qN qS
      have gp : 0 < Nat.gcd s t := Nat.gcd_pos_of_pos_right s ht
      have gle : Nat.gcd s t ≤ t := Nat.le_of_dvd ht (Nat.gcd_dvd_right s t)
      have pj := bj_pos (s := s) ht
      have pk := bk_pos (t := t) hs
      have lj : t / Nat.gcd s t ≤ t := Nat.div_le_self _ _
      have lk : s / Nat.gcd s t ≤ s := Nat.div_le_self _ _
      have kk := missed_ok (k := ((a : Int) + (j0 : Int) * (s : Int) - (b : Int)) / (t : Int)) pk
      unfold pm at qN qS
      dsimp only at qN qS
      refine ⟨_, rfl, rfl, _, rfl, iteF ?_⟩
      refine ⟨_, rfl, _, rfl, _, rfl, _, _, rfl, rfl, .inr ⟨by omega, by omega⟩, _, _, rfl, rfl, _, rfl, _, _, rfl, rfl, _, rfl, _, _, rfl, rfl, wide_div (b := 32) (by omega) (by omega) (by decide) (by decide), ?_⟩
      refine ⟨_, rfl, _, rfl, s, t, rfl, ?_⟩
      refine ⟨_, rfl, _, rfl, _, _, rfl, rfl, wide_div (b := 32) (by omega) (by omega) (by decide) (by decide), ?_⟩
      refine ⟨_, rfl, _, rfl, _, _, rfl, rfl, wide_div (b := 32) (by omega) (by omega) (by decide) (by decide), ?_⟩
      dsimp only
      rw [← Int.natCast_ediv t, ← Int.natCast_ediv s]
      generalize ((a : Int) + (j0 : Int) * (s : Int) - (b : Int)) / (t : Int) = k0 at *
      generalize t / Nat.gcd s t = u at *
      generalize s / Nat.gcd s t = v at *
      have last : ∀ (j1 k1 : Nat), j1 = j0 + missed k0 v * u → k1 = (k0 + (missed k0 v : Nat) * (v : Int)).toNat →
          (n ≤ j1 ∨ n ≤ k1 → Q .non H) ∧ ∀ z : Int, z = ((1 + min ((n - 1 - j1) / u) ((n - 1 - k1) / v) : Nat) : Int) → ¬ (n ≤ j1 ∨ n ≤ k1) → ∀ p, H p = none → Q (.ref p) (upd H p (.tup [.int z, .int j1, .int k1])) := fun j1 k1 e1 e2 => by
        rw [← e1, ← e2] at qN qS
        refine ⟨fun c => qN (if_pos c), fun z ez c p np => ?_⟩
        rw [ez]
        exact qS _ (if_neg c) p np
      refine ⟨_, rfl, _, _, rfl, rfl, _, rfl, ite2 (fun c => ?A) (fun c => ?B)⟩
      case' A =>
        have c : k0 < 0 := of_decide_eq_true c
        refine ⟨_, rfl, _, rfl, _, rfl, _, _, rfl, by omega, by omega, ?_⟩
        refine ⟨_, rfl, _, rfl, _, rfl, _, _, rfl, rfl, .inr ⟨by omega, by omega⟩, _, _, rfl, rfl, ?_⟩
        refine ⟨_, rfl, _, rfl, _, rfl, _, _, rfl, rfl, .inr ⟨by omega, by omega⟩, _, _, rfl, rfl, ?_⟩
        dsimp only
        rw [up_cast c pk]
        obtain ⟨qN, qS⟩ := last _ _ rfl rfl
        have e1 : (j0 : Int) + (missed k0 v : Nat) * (u : Int) = ((j0 + missed k0 v * u : Nat) : Int) := by
          rw [Int.natCast_add, Int.natCast_mul]
        have e2 : k0 + (missed k0 v : Nat) * (v : Int) = (((k0 + (missed k0 v : Nat) * (v : Int)).toNat : Nat) : Int) := by
          rw [Int.toNat_of_nonneg kk]
        rw [e1, e2]
        generalize j0 + missed k0 v * u = j1 at *
        generalize (k0 + (missed k0 v : Nat) * (v : Int)).toNat = k1 at *
      case' B =>
        have c : ¬ k0 < 0 := fun z => c (decide_eq_true z)
        have m0 : missed k0 v = 0 := if_neg c
        obtain ⟨qN, qS⟩ := last j0 k0.toNat (by rw [m0, Nat.zero_mul, Nat.add_zero]) (by rw [m0]; simp)
        have e2 : k0 = ((k0.toNat : Nat) : Int) := (Int.toNat_of_nonneg (by omega)).symm
        rw [e2]
        generalize k0.toNat = k1 at *
        have e1 : j0 = j0 := rfl
        generalize hj1 : j0 = j1 at *
      all_goals
        refine ⟨_, rfl, _, rfl, _, _, rfl, rfl, _, rfl, ite2 (fun d => ?_) (fun d => ?_)⟩
        · have d := of_decide_eq_true d
          exact iteT (qN (.inl (by omega)))
        have d : ¬ _ := fun z => d (decide_eq_true z)
        refine ⟨_, rfl, _, rfl, _, _, rfl, rfl, _, rfl, ite2 (fun g => ?_) (fun g => ?_)⟩
        · have g := of_decide_eq_true g
          exact qN (.inr (by omega))
        have g : ¬ _ := fun z => g (decide_eq_true z)
        refine ⟨_, rfl, _, _, rfl, rfl, _, rfl, _, _, rfl, rfl, _, rfl, _, _, rfl, rfl, wide_div (b := 32) (by omega) (by omega) (by decide) (by decide), ?_⟩
        refine ⟨_, rfl, _, _, rfl, rfl, _, rfl, _, _, rfl, rfl, _, rfl, _, _, rfl, rfl, wide_div (b := 32) (by omega) (by omega) (by decide) (by decide), _, _, rfl, ?_⟩
        refine ⟨_, rfl, _, _, rfl, rfl, _, rfl, _, rfl, by show 3 ≤ sizeLine; decide, ?_⟩
        refine qS _ ?_ (by omega)
        have f : ∀ x y : Nat, x < n → ((n : Int) - 1 - (x : Int)) / (y : Int) = (((n - 1 - x) / y : Nat) : Int) := fun x y hx => by
          rw [Int.natCast_ediv, Int.ofNat_sub (by omega), Int.ofNat_sub (by omega)]
          rfl
        rw [f j1 u (by omega), f k1 v (by omega)]
        generalize (n - 1 - j1) / u = y1
        generalize (n - 1 - k1) / v = y2
        split <;> omega
end
end Wt
/-! rows.py, second part -/
namespace Wt
open PySem PySem.Spec PyProof.Rows L2

section
variable {P : Program} {w : World} {K : PySem.W.Frag} {mg : Str → Option Value} {base : Heap}
theorem ok_least_not_below_nought (b_min : mg "min" = none) (D : Def K mg "least_not_below_nought" s_least_not_below_nought ["first", "growth", "count"]) (C_rounded_up : Cal P w K mg base 1 "rounded_up" spRU) :
    Cal P w K mg base 2 "least_not_below_nought" spLNB := by
  refine D.cal sc_least_not_below_nought (fun vs H Q E h => ?_) (fun fa cdv A outer st H vs Q E hr h => ?_)
  · obtain ⟨d, q, m, rfl, _⟩ := h
    rfl
  · obtain ⟨d, q, m, rfl, hm, hq1, hq2, qq⟩ := h
    refine ⟨_, (pss_cons (ps_if (PW.pt (pw_and (pt_cmpR op_ge (pv 0) pe_int (nomark _)) (pw_and1 (pt_cmpR op_ge (pv 1) pe_int (nomark _)))))
      (pss_one (ps_ret (pv 0)))
      pss_nil)
    (pss_cons (ps_if (pt_cmpR op_ge (pv 0) pe_int (nomark _))
      (pss_one (ps_ret (pe_op op_add (pv 0) (pe_op op_mul (pv 1) (pe_callB (call_min2 rfl) (by rfl) b_min (by decide +kernel) (pa_cons (pe_op op_sub (pv 2) pe_int) (pa_cons (pe_op op_fdivW (pv 0) (pe_un un_neg (pv 1))) pa_nil)))))))
      pss_nil)
    (pss_cons (ps_if (pt_cmpR op_le (pv 1) pe_int (nomark _))
      (pss_one (ps_ret pe_non))
      pss_nil)
    (pss_cons (ps_set (i := 3) sc_least_not_below_nought.nd rfl (Or.inl rfl) (pe_c C_rounded_up hr (by decide) (by rfl) (pa_cons (pe_un un_neg (pv 0)) (pa_cons (pv 1) pa_nil))))
    (pss_cons (ps_if (pt_cmpR op_ge (pv 3) (pv 2) (nomark _))
      (pss_one (ps_ret pe_non))
      pss_nil)
    (pss_one (ps_ret (pe_op op_add (pv 0) (pe_op op_mul (pv 1) (pv 3)))))))))), ?_⟩
    unfold lnb at qq
    refine ⟨_, rfl, _, _, rfl, rfl, _, rfl, ite2 (fun c => ?_) (fun c => ?_)⟩
    · have c : 0 ≤ d := of_decide_eq_true c
      refine ⟨_, rfl, _, _, rfl, rfl, _, rfl, ite2 (fun e => ?_) (fun e => ?_)⟩
      · have e : 0 ≤ q := of_decide_eq_true e
        rw [if_pos ⟨c, e⟩] at qq
        exact ⟨_, rfl, qq⟩
      · have e : ¬ 0 ≤ q := fun z => e (decide_eq_true z)
        rw [if_neg (fun z => e z.2), if_pos c] at qq
        refine ⟨_, rfl, _, _, rfl, rfl, _, rfl, ite2 (fun _ => ?_) (fun z => absurd (decide_eq_true c) z)⟩
        refine ⟨_, rfl, _, rfl, _, rfl, _, _, rfl, rfl, _, rfl, _, rfl, _, rfl, _, _, rfl, rfl, wide_div (b := 64) (by omega) (by omega) (by decide) (by decide), _, _, rfl, _, _, rfl, rfl, .inl ⟨by omega, by omega⟩, _, _, rfl, rfl, ?_⟩
        exact qq
    · have c : ¬ 0 ≤ d := fun z => c (decide_eq_true z)
      rw [if_neg (fun z => c z.1), if_neg c] at qq
      refine iteF ?_
      refine ⟨_, rfl, _, _, rfl, rfl, _, rfl, ite2 (fun z => absurd (of_decide_eq_true z) c) (fun _ => ?_)⟩
      refine ⟨_, rfl, _, _, rfl, rfl, _, rfl, ite2 (fun e => ?_) (fun e => ?_)⟩
      · have e : q ≤ 0 := of_decide_eq_true e
        rw [if_pos e] at qq
        exact qq
      · have e : ¬ q ≤ 0 := fun z => e (decide_eq_true z)
        rw [if_neg e] at qq
        refine ⟨_, rfl, _, rfl, _, rfl, _, _, rfl, by omega, by omega, ?_⟩
        refine ⟨_, rfl, _, rfl, _, _, rfl, rfl, _, rfl, ite2 (fun g => ?_) (fun g => ?_)⟩
        · have g := of_decide_eq_true g
          rw [if_pos g] at qq
          exact qq
        · have g : ¬ (m : Int) ≤ (-d + q - 1) / q := fun z => g (decide_eq_true z)
          rw [if_neg g] at qq
          exact ⟨_, rfl, _, rfl, _, rfl, _, _, rfl, rfl, .inl ⟨by omega, by omega⟩, _, _, rfl, rfl, qq⟩
theorem ok_least_apart (D : Def K mg "least_apart" s_least_apart ["start", "step", "other_start", "other_step", "length"]) (C_meetings : Cal P w K mg base 204 "meetings" spMt) (C_common_divisor : Cal P w K mg base 1 "common_divisor" spGcd) (C_least_not_below_nought : Cal P w K mg base 2 "least_not_below_nought" spLNB) :
    Cal P w K mg base 205 "least_apart" spLA := by
  refine D.cal sc_least_apart (fun vs H Q E h => ?_) (fun fa cdv A outer st H vs Q E hr h => ?_)
  · obtain ⟨a, s, b, t, n, rfl, _⟩ := h
    rfl
  · obtain ⟨a, s, b, t, n, rfl, hs, ht, hn, hs6, ht6, qq⟩ := h
    refine ⟨_, (pss_cons (ps_set (i := 5) sc_least_apart.nd rfl (Or.inl rfl) (pe_c C_meetings hr (by decide) (by rfl) (pa_cons (pv 0) (pa_cons (pv 1) (pa_cons (pv 2) (pa_cons (pv 3) (pa_cons (pv 4) pa_nil)))))))
    (pss_cons (ps_if (pt_cmpR op_isN (pv 5) pe_non (nomark _))
      (pss_one (ps_ret pe_non))
      pss_nil)
    (pss_cons (ps_set (i := 6) sc_least_apart.nd rfl (Or.inl rfl) (pe_op op_fdivW (pe_op op_sub (pv 1) (pv 3)) (pe_c C_common_divisor hr (by decide) (by rfl) (pa_cons (pv 1) (pa_cons (pv 3) pa_nil)))))
    (pss_one (ps_ret (pe_c C_least_not_below_nought hr (by decide) (by rfl) (pa_cons (pe_op op_sub (pe_ix ix_tup (pv 5) pe_int (fun _ _ => rfl)) (pe_ix ix_tup (pv 5) pe_int (fun _ _ => rfl))) (pa_cons (pv 6) (pa_cons (pe_ix ix_tup (pv 5) pe_int (fun _ _ => rfl)) pa_nil))))))))), ?_⟩
    refine ⟨_, rfl, _, rfl, _, rfl, _, rfl, _, rfl, a, s, b, t, n, rfl, hs, ht, hn, hs6, ht6, fun e => ?_, fun r e p np => ?_⟩
    · refine ⟨_, rfl, rfl, _, rfl, iteT ?_⟩
      have := qq H (.refl _)
      unfold Cm05.apart at this
      rw [e] at this
      exact this
    · have mi := meets_is (a := a) (b := b) hs ht hn (show t ≤ 2 ^ 32 by omega)
      rw [e] at mi
      obtain ⟨m, j, k⟩ := r
      have hm : 0 < m := mi.1
      have ab := apart_by e hm
      have s1 := same_upd (o := .tup [.int (m : Nat), .int (j : Nat), .int (k : Nat)]) np
      have gp : 0 < Nat.gcd s t := Nat.gcd_pos_of_pos_right s ht
      have gle : Nat.gcd s t ≤ t := Nat.le_of_dvd ht (Nat.gcd_dvd_right s t)
      have qs := quot_sub (s := s) ht
      have lj : t / Nat.gcd s t ≤ t := Nat.div_le_self _ _
      have lk : s / Nat.gcd s t ≤ s := Nat.div_le_self _ _
      have qb : ((s : Int) - (t : Int)) / ((Nat.gcd s t : Nat) : Int) < 2 ^ 40 ∧ -(2 ^ 40) < ((s : Int) - (t : Int)) / ((Nat.gcd s t : Nat) : Int) := by
        rw [qs]
        clear qs ab
        generalize t / Nat.gcd s t = u at *
        generalize s / Nat.gcd s t = v at *
        omega
      refine ⟨_, rfl, rfl, _, rfl, iteF ?_⟩
      refine ⟨_, rfl, _, rfl, _, _, rfl, rfl, _, rfl, _, rfl, s, t, rfl, _, _, rfl, rfl, wide_div (b := 32) (by omega) (by omega) (by decide) (by decide), ?_⟩
      refine ⟨_, rfl, p, _, 2, _, rfl, rfl, SqT.of upd_same, rfl, _, rfl, p, _, 1, _, rfl, rfl, SqT.of upd_same, rfl, _, _, rfl, rfl, _, rfl, _, rfl, p, _, 0, _, rfl, rfl, SqT.of upd_same, rfl, ?_⟩
      refine ⟨(k : Int) - (j : Int), _, m, rfl, hm, qb.1, qb.2, ?_⟩
      have := qq _ s1
      rw [← optI_nat, ab] at this
      exact this
end
end Wt
/-! words.py -/
namespace Wt
open PySem PySem.Spec PyProof.Rows L2
open Cm05 (normal)

/-! lists of whole numbers in the heap -/
abbrev iv (ns : List Int) : List V := ns.map V.int
theorem iv_get {ns : List Int} {i : Nat} {x : V} (h : (iv ns)[i]? = some x) : ∃ z, ns[i]? = some z ∧ x = V.int z := by
  rw [List.getElem?_map] at h
  cases e : ns[i]? with
  | none =>
    rw [e] at h
    cases h
  | some z =>
    rw [e] at h
    exact ⟨z, rfl, (Option.some.inj h).symm⟩
theorem iv_at {ns : List Int} {i : Nat} {z : Int} (h : ns[i]? = some z) : (iv ns)[i]? = some (V.int z) := by
  rw [List.getElem?_map, h]
  rfl
theorem take_more {α : Type} {l : List α} {i : Nat} {x : α} (h : l[i]? = some x) : l.take (i + 1) = l.take i ++ [x] := by
  rw [List.take_add_one, h]
  rfl
theorem iv_atI {ns : List Int} {i : Nat} {z : Int} (h : ns[i]? = some z) : atI (iv ns) (i : Int) = some (V.int z) := atI_nat (iv_at h)
theorem cut_to (ns : List Int) (k : Nat) : cutV (iv ns) none (some (k : Int)) = iv (ns.take k) := by
  unfold cutV
  rw [HT.sIx_none, HT.sIx_nat, List.drop_zero, List.length_map, Nat.sub_zero, ← List.map_take]
  congr 1
  by_cases h : k ≤ ns.length
  · rw [Nat.min_eq_left h]
  · rw [Nat.min_eq_right (by omega), List.take_of_length_le (Nat.le_refl _), List.take_of_length_le (by omega)]
theorem cut_from (ns : List Int) (k : Nat) : cutV (iv ns) (some (k : Int)) none = iv (ns.drop k) := by
  unfold cutV
  rw [HT.sIx_none, HT.sIx_nat, List.length_map, ← List.map_drop, ← List.map_take]
  congr 1
  by_cases h : k ≤ ns.length
  · rw [Nat.min_eq_left h, List.take_of_length_le (by rw [List.length_drop]; omega)]
  · rw [Nat.min_eq_right (by omega), List.drop_of_length_le (Nat.le_refl ns.length), List.drop_of_length_le (by omega), List.take_nil]
theorem cut_both (ns : List Int) (k m : Nat) : cutV (iv ns) (some (k : Int)) (some (m : Int)) = iv ((ns.drop k).take (m - k)) := by
  unfold cutV
  rw [HT.sIx_nat, HT.sIx_nat, List.length_map, ← List.map_drop, ← List.map_take]
  congr 1
  by_cases h : k ≤ ns.length
  · rw [Nat.min_eq_left h]
    by_cases h2 : m ≤ ns.length
    · rw [Nat.min_eq_left h2]
    · rw [Nat.min_eq_right (by omega), List.take_of_length_le (by rw [List.length_drop]; omega), List.take_of_length_le (by rw [List.length_drop]; omega)]
  · rw [Nat.min_eq_right (by omega : ns.length ≤ k), List.drop_of_length_le (Nat.le_refl ns.length), List.drop_of_length_le (by omega : ns.length ≤ k)]
    rw [List.take_nil, List.take_nil]

def spSize : Sp := fun vs H Q _ => ∃ n : Nat, vs = [.int n] ∧ n ≤ 32 ∧ Q (.int (2 ^ n : Nat)) H
def isWord (M z : Int) : Bool := decide (0 ≤ z) && decide (z < M)
def spAreWords (K : PySem.W.Frag) : Sp := fun vs H Q _ => ∃ (a : Addr) (ns : List Int) (M : Int), vs = [.ref a, .int M] ∧ SqL K H a (iv ns) ∧ ns.length ≤ 1000 ∧ ∀ H', Same H H' → Q (.bl (ns.all (isWord M))) H'
def spTrim (K : PySem.W.Frag) : Sp := fun vs H Q _ => ∃ (a : Addr) (c : List Nat), vs = [.ref a] ∧ SqL K H a (iv (zs c)) ∧ c ≠ [] ∧ ∀ p, H p = none → Q (.ref p) (upd H p (.lst (iv (zs (normal c)))))

abbrev s_size_of : Stmt := topS 14
theorem sc_size_of : FnScope ["bits", "size", "bit"] ["bits"] (defScope s_size_of) := ⟨rfl, rfl, rfl, by decide +kernel, rfl, by decide +kernel, by decide +kernel⟩
abbrev s_are_words : Stmt := topS 15
theorem sc_are_words : FnScope ["numbers", "size", "number"] ["numbers", "size"] (defScope s_are_words) := ⟨rfl, rfl, rfl, by decide +kernel, rfl, by decide +kernel, by decide +kernel⟩
abbrev s_without_end_noughts : Stmt := topS 16
theorem sc_without_end_noughts : FnScope ["words", "length"] ["words"] (defScope s_without_end_noughts) := ⟨rfl, rfl, rfl, by decide +kernel, rfl, by decide +kernel, by decide +kernel⟩

theorem zs_length (c : List Nat) : (zs c).length = c.length := List.length_map _
theorem zs_get {c : List Nat} {i : Nat} {x : Nat} (h : c[i]? = some x) : (zs c)[i]? = some (x : Int) := by
  rw [List.getElem?_map, h]
  rfl
theorem zs_take (c : List Nat) (k : Nat) : (zs c).take k = zs (c.take k) := (List.map_take).symm
section
variable {P : Program} {w : World} {K : PySem.W.Frag} {mg : Str → Option Value} {base : Heap}
theorem ok_size_of (D : Def K mg "size_of" s_size_of ["bits"]) (b_range : mg "range" = none) : Cal P w K mg base 1 "size_of" spSize := by
  refine D.cal sc_size_of (fun vs H Q E h => ?_) (fun fa cdv A outer st H vs Q E hr h => ?_)
  · obtain ⟨n, rfl, _⟩ := h
    rfl
  · obtain ⟨n, rfl, hn, q⟩ := h
    refine ⟨_, (pss_cons (ps_set (i := 1) sc_size_of.nd rfl (Or.inl rfl) pe_int)
    (pss_cons (ps_for PassesOwn.never rfl (pi_range1 (by rfl) b_range (pa_cons (pv 0) pa_nil)) (pg_name (i := 2) sc_size_of.nd rfl (Or.inl rfl))
      (pss_one (ps_set (i := 1) sc_size_of.nd rfl (Or.inl rfl) (pe_op op_mul (pv 1) pe_int))))
    (pss_one (ps_ret (pv 1))))), ?_⟩
    refine ⟨_, rfl, (n : Int), rfl, by omega, by omega, for_range (lo := 0) (n := (n : Int).toNat) (fun i σ H' => H' = H ∧ ∃ v, σ = [some (.int n), some (.int (2 ^ i : Nat)), v]) ⟨rfl, none, rfl⟩ ?_ ?_⟩
    · rintro i σ H' hi ⟨rfl, v, rfl⟩
      refine ⟨_, rfl, _, _, rfl, rfl, .inr ⟨by decide, by decide⟩, rfl, some (.int (0 + i)), ?_⟩
      rw [Nat.pow_succ, Int.natCast_mul]
      rfl
    · rintro σ H' ⟨rfl, v, rfl⟩
      rw [Int.toNat_natCast]
      exact ⟨_, rfl, q⟩
theorem ok_are_words (D : Def K mg "are_words" s_are_words ["numbers", "size"]) (b_all : mg "all" = none) : Cal P w K mg base 1 "are_words" (spAreWords K) := by
  refine D.cal sc_are_words (fun vs H Q E h => ?_) (fun fa cdv A outer st H vs Q E hr h => ?_)
  · obtain ⟨a, ns, M, rfl, _⟩ := h
    rfl
  · obtain ⟨a, ns, M, rfl, hS, hlen, q⟩ := h
    refine ⟨_, (pss_one (ps_ret (pe_callB (cr_all rfl) (by rfl) b_all (by decide +kernel) (pa_cons (pe_lc (own := [("number", 2)]) (g := gName 2) (by rfl) sc_are_words.nd (pi_list (pv 0)) (blkOk_by (own := [("number", 2)]) (N := ["numbers", "size", "number"]) (sc := defScope s_are_words) (by decide +kernel)) (fun _ _ _ _ _ => pg_name (i := 2) sc_are_words.nd rfl (Or.inl rfl)) (fun _ _ _ _ _ => pts_nil) (fun _ _ _ _ _ => (pe_chain op_le op_lt pe_int (pv 2) (pv 1)))) pa_nil)))), ?_⟩
    refine ⟨_, rfl, a, rfl, ⟨_, hS⟩, fun d nd => lc_list (K := K) (a := a) (xs := iv ns) (fun i H' => Same H H' ∧ H' d = some (.lst (((ns.take i).map (isWord M)).map V.bl))) ⟨same_upd nd, ?_⟩ (fun i H' _ h => h.1.seq hS) ?_ ?_⟩
    · rw [upd_same]
      rfl
    · rintro i x H' hx ⟨sm, hd⟩
      obtain ⟨z, hz, rfl⟩ := iv_get hx
      have fin : ∀ b, b = isWord M z → ∃ acc, H' d = some (.lst acc) ∧ acc.length < sizeLine ∧ Same H (upd H' d (.lst (acc ++ [.bl b]))) ∧ (upd H' d (.lst (acc ++ [.bl b]))) d = some (.lst (((ns.take (i + 1)).map (isWord M)).map V.bl)) := fun b hb => by
        refine ⟨_, hd, ?_, fun c o e => ?_, ?_⟩
        · rw [List.length_map, List.length_map, List.length_take]
          exact small1000 (by omega)
        · rw [upd_ne (ne_of_none e nd)]
          exact sm _ _ e
        · rw [upd_same, take_more hz, List.map_append, List.map_append, hb]
          rfl
      refine ⟨rfl, ?_⟩
      dsimp only [tYes]
      rw [if_pos rfl]
      refine ⟨_, rfl, _, _, rfl, rfl, _, rfl, ite2 (fun c => ?_) (fun c => ?_)⟩
      · have c := of_decide_eq_true c
        refine ⟨_, rfl, _, _, rfl, rfl, fin _ ?_⟩
        unfold isWord
        rw [decide_eq_true c, Bool.true_and]
      · have c : ¬ 0 ≤ z := fun t => c (decide_eq_true t)
        refine fin _ ?_
        unfold isWord
        rw [decide_eq_false c, Bool.false_and]
    · rintro H' ⟨sm, hd⟩
      rw [List.length_map, List.take_length] at hd
      refine ⟨d, ns.map (isWord M), rfl, SqL.of hd, ?_⟩
      rw [List.all_map]
      exact q H' sm
theorem ok_without_end_noughts (D : Def K mg "without_end_noughts" s_without_end_noughts ["words"]) (b_len : mg "len" = none) : Cal P w K mg base 1 "without_end_noughts" (spTrim K) := by
  refine D.cal sc_without_end_noughts (fun vs H Q E h => ?_) (fun fa cdv A outer st H vs Q E hr h => ?_)
  · obtain ⟨a, c, rfl, _⟩ := h
    rfl
  · obtain ⟨a, c, rfl, hS, hne, q⟩ := h
    refine ⟨_, (pss_cons (ps_set (i := 1) sc_without_end_noughts.nd rfl (Or.inl rfl) (pe_callB call_len_seq (by rfl) b_len (by decide +kernel) (pa_cons (pv 0) pa_nil)))
    (pss_cons (ps_while PassesOwn.never (PW.pt (pw_and (pt_cmpR op_gt (pv 1) pe_int (nomark _)) (pw_and1 (pt_cmpR op_eq (pe_ix ix_list (pv 0) (pe_op op_sub (pv 1) pe_int) (fun _ _ => rfl)) pe_int (nomark _)))))
      (pss_one (ps_set (i := 1) sc_without_end_noughts.nd rfl (Or.inl rfl) (pe_op op_sub (pv 1) pe_int))))
    (pss_one (ps_ret (pe_slice sl_list (pv 0) po_none (po_some (pv 1))))))), ?_⟩
    have hl0 : 0 < c.length := List.length_pos_iff.mpr hne
    refine ⟨_, rfl, a, _, rfl, .inl hS, fun m σ H' => H' = H ∧ 1 ≤ m ∧ m ≤ c.length ∧ normal (c.take m) = normal c ∧ σ = [some (.ref a), some (.int (m : Nat))], ⟨c.length, rfl, hl0, Nat.le_refl _, by rw [List.take_length], ?_⟩, ?_⟩
    · rw [List.length_map, zs_length]
      rfl
    · rintro m σ H' ⟨rfl, h1, h2, hn, rfl⟩
      have done : normal (c.take m) = c.take m → tRet (tSl (rSlL K) (tVar 0) (fun σ H Q => Q none H) (fun σ H Q => tVar 1 σ H fun x H1 => ∃ i, x = .int i ∧ Q (some i) H1)) { nx := fun _ H' => Q .non H', rt := Q } [some (V.ref a), some (.int (m : Nat))] H' := fun e => by
        refine ⟨_, rfl, _, rfl, _, rfl, a, _, rfl, hS, fun p np => ?_⟩
        rw [cut_to, zs_take, ← e, hn]
        exact q p np
      refine ⟨_, rfl, _, _, rfl, rfl, _, rfl, ite2 (fun g => ?_) (fun g => ?_)⟩
      · have g := of_decide_eq_true g
        have hm : m - 1 < c.length := by omega
        have hx : c[m - 1]? = some c[m - 1] := List.getElem?_eq_getElem hm
        have em : c.take m = c.take (m - 1) ++ [c[m - 1]] := by
          have := take_more hx
          rw [Nat.sub_add_cancel h1] at this
          exact this
        refine ⟨_, rfl, _, rfl, _, _, rfl, rfl, a, _, (((m - 1 : Nat)) : Int), _, rfl, ?_, hS, iv_atI (zs_get hx), rfl, _, rfl, ?_⟩
        · rw [Int.ofNat_sub h1]
          rfl
        · by_cases z : c[m - 1] = 0
          · rw [z] at em ⊢
            refine ite2 (fun _ => ?_) (fun z => absurd (dec_eq rfl) z)
            refine ⟨fun σ' H2 => ∃ m', m' < m ∧ (H2 = H' ∧ 1 ≤ m' ∧ m' ≤ c.length ∧ normal (c.take m') = normal c ∧ σ' = [some (.ref a), some (.int (m' : Nat))]), fun _ _ h => h, ?_⟩
            refine ⟨_, rfl, _, _, rfl, rfl, m - 1, by omega, rfl, by omega, by omega, ?_, ?_⟩
            · rw [em, normal_zero] at hn
              · exact hn
              · intro e
                have := congrArg List.length e
                rw [List.length_take, List.length_nil] at this
                omega
            · rw [Int.ofNat_sub h1]
              rfl
          · refine ite2 (fun t => absurd (V.int.inj (of_decide_eq_true t)) (by omega)) (fun _ => ?_)
            exact done (by rw [em, normal_nz z])
      · have g : ¬ 1 < (m : Int) := fun t => g (decide_eq_true t)
        have m1 : m = 1 := by omega
        subst m1
        refine done ?_
        cases c with
        | nil => exact absurd rfl hne
        | cons x r => exact normal_one x
end
end Wt
/-! table.py -/
namespace Wt
open PySem PySem.Spec PyProof.Rows L2
open Cm05 (normal)

/-! the table in the heap -/
abbrev tF (M : Int) (l : Addr) : List (Str × V) := [("size", .int M), ("held", .ref l)]
theorem lk_here {k : Str} {v : V} {r : List (Str × V)} : List.lookup k ((k, v) :: r) = some v := by
  have e : (k == k) = true := beq_self_eq_true k
  simp only [List.lookup, e]
theorem lk_past {k g : Str} {v : V} {r : List (Str × V)} (h : (k == g) = false) : List.lookup k ((g, v) :: r) = List.lookup k r := by
  simp only [List.lookup, h]
theorem put_here {f : Str} {v x : V} {r : List (Str × V)} : putF f v ((f, x) :: r) = (f, v) :: r := if_pos rfl
theorem put_past {f g : Str} {v x : V} {r : List (Str × V)} (h : ¬ g = f) : putF f v ((g, x) :: r) = (g, x) :: putF f v r := if_neg h
abbrev fF (x y : V) : List (Str × V) := [("size", x), ("held", y)]
theorem fF_size (x y : V) : (fF x y).lookup ("size" : Str) = some x := lk_here
theorem fF_held (x y : V) : (fF x y).lookup ("held" : Str) = some y := (lk_past (by decide +kernel)).trans lk_here
theorem fF_begin (x y : V) : (fF x y).lookup ("begin" : Str) = none := (lk_past (by decide +kernel)).trans ((lk_past (by decide +kernel)).trans rfl)
theorem fF_words (x y : V) : (fF x y).lookup ("words_of" : Str) = none := (lk_past (by decide +kernel)).trans ((lk_past (by decide +kernel)).trans rfl)
theorem fF_put (x y : V) : (fF x y).lookup ("put" : Str) = none := (lk_past (by decide +kernel)).trans ((lk_past (by decide +kernel)).trans rfl)
theorem fF_setSize (x y z : V) : putF "size" z (fF x y) = fF z y := put_here
theorem fF_setHeld (x y z : V) : putF "held" z (fF x y) = fF x z := (put_past (by decide +kernel)).trans (congrArg _ put_here)
theorem fF_new (x y : V) : putF "held" y (putF "size" x []) = fF x y := (put_past (by decide +kernel)).trans rfl

/-- the table at a, its list of chains at l; none of its lists is one of N, which stand in the heap -/
structure TblAt (C : Addr) (N : Addr → Prop) (H : Hp) (a l : Addr) (m : Cm05.St) : Prop where
  ex : ∃ (dx : Addr) (ps : List Addr), H a = some (.ins C dx (fF (.int (2 ^ m.n : Nat)) (.ref l))) ∧ H l = some (.lst (ps.map V.ref)) ∧ ps.length = m.chains.length ∧ (∀ p ∈ ps, p ≠ l ∧ ¬ N p) ∧
    ∀ (i : Nat) (p : Addr) (c : List Nat), ps[i]? = some p → m.chains[i]? = some c → H p = some (.lst (iv (zs c)))
  ne : a ≠ l
  nn : ∀ b, N b → ∃ o, H b = some o
/-- all but what stands at a and at l is as it was -/
def Keep (H H' : Hp) (a l : Addr) : Prop := ∀ b o, H b = some o → b ≠ a → b ≠ l → H' b = some o
theorem TblAt.same {C : Addr} {N : Addr → Prop} {H H' : Hp} {a l : Addr} {m : Cm05.St} (t : TblAt C N H a l m) (s : Same H H') : TblAt C N H' a l m := by
  obtain ⟨⟨dx, ps, h1, h2, h3, h4, h5⟩, ne, nn⟩ := t
  exact ⟨⟨dx, ps, s _ _ h1, s _ _ h2, h3, h4, fun i p c e1 e2 => s _ _ (h5 i p c e1 e2)⟩, ne, fun b hb => let ⟨o, e⟩ := nn b hb; ⟨o, s _ _ e⟩⟩
theorem Keep.of_same {H H' : Hp} {a l : Addr} (s : Same H H') : Keep H H' a l := fun b o e _ _ => s b o e

theorem iv_ne_ref {c : List Nat} {ps : List Addr} (hc : c ≠ []) : iv (zs c) ≠ ps.map V.ref := by
  cases c with
  | nil => exact absurd rfl hc
  | cons x r =>
    cases ps with
    | nil => intro e; cases e
    | cons p q =>
      intro e
      have e1 : V.int (x : Int) = V.ref p := (List.cons.inj e).1
      cases e1

structure CF (K : PySem.W.Frag) (C : Addr) : Prop where
  cl : Cls K C
  nS : NoAttr K C "size"
  nH : NoAttr K C "held"

def spAreChains (K : PySem.W.Frag) : Sp := fun vs H Q _ => ∃ (a : Addr) (ns : List Int), vs = [.ref a] ∧ SqL K H a (iv ns) ∧ ns.length ≤ 1000 ∧ ∀ H', Same H H' → Q (.bl (ns.all (isWord 8))) H'
def spBegin (C : Addr) : Sp := fun vs H Q _ => ∃ (N : Addr → Prop) (a dx : Addr) (x y : V) (n : Nat), vs = [.ref a, .int n] ∧ H a = some (.ins C dx (fF x y)) ∧ 1 ≤ n ∧ n ≤ 32 ∧ (∀ b, N b → ∃ o, H b = some o) ∧
  ∀ (H' : Hp) (l : Addr), (∀ b o, H b = some o → b ≠ a → H' b = some o) → H l = none → TblAt C N H' a l (Cm05.anew n) → Q .non H'
def spInit (C : Addr) : Sp := fun vs H Q _ => ∃ (N : Addr → Prop) (a dx : Addr), vs = [.ref a] ∧ H a = some (.ins C dx []) ∧ (∀ b, N b → ∃ o, H b = some o) ∧
  ∀ (H' : Hp) (l : Addr), (∀ b o, H b = some o → b ≠ a → H' b = some o) → H l = none → TblAt C N H' a l Cm05.init → Q .non H'
def spWordsOf (C : Addr) : Sp := fun vs H Q _ => ∃ (N : Addr → Prop) (a l : Addr) (m : Cm05.St) (x : Nat), vs = [.ref a, .int x] ∧ TblAt C N H a l m ∧ x < m.chains.length ∧
  ∀ p, H p = none → Q (.ref p) (upd H p (.lst (iv (zs (Cm05.chainAt m x)))))
def spPut (K : PySem.W.Frag) (C : Addr) : Sp := fun vs H Q _ => ∃ (N : Addr → Prop) (a l wl : Addr) (m : Cm05.St) (x : Nat) (c : List Nat), vs = [.ref a, .int x, .ref wl] ∧ TblAt C N H a l m ∧ x < m.chains.length ∧ SqL K H wl (iv (zs c)) ∧ c ≠ [] ∧
  (8 < (normal c).length → ∀ H', Same H H' → Q (.bl false) H') ∧
  ((normal c).length ≤ 8 → ∀ H' : Hp, (∀ b o, H b = some o → b ≠ l → H' b = some o) → TblAt C N H' a l { m with chains := m.chains.set x (normal c) } → Q (.bl true) H')

abbrev s_are_chains : Stmt := topS 21
theorem sc_are_chains : FnScope ["numbers", "number"] ["numbers"] (defScope s_are_chains) := ⟨rfl, rfl, rfl, by decide +kernel, rfl, by decide +kernel, by decide +kernel⟩
abbrev s_Table_init : Stmt := inClass (topS 22) 0
theorem sc_Table_init : FnScope ["self"] ["self"] (defScope s_Table_init) := ⟨rfl, rfl, rfl, by decide +kernel, rfl, by decide +kernel, by decide +kernel⟩
abbrev s_Table_begin : Stmt := inClass (topS 22) 1
theorem sc_Table_begin : FnScope ["self", "bits", "place"] ["self", "bits"] (defScope s_Table_begin) := ⟨rfl, rfl, rfl, by decide +kernel, rfl, by decide +kernel, by decide +kernel⟩
abbrev s_Table_words_of : Stmt := inClass (topS 22) 2
theorem sc_Table_words_of : FnScope ["self", "place"] ["self", "place"] (defScope s_Table_words_of) := ⟨rfl, rfl, rfl, by decide +kernel, rfl, by decide +kernel, by decide +kernel⟩
abbrev s_Table_put : Stmt := inClass (topS 22) 3
theorem sc_Table_put : FnScope ["self", "place", "words", "kept"] ["self", "place", "words"] (defScope s_Table_put) := ⟨rfl, rfl, rfl, by decide +kernel, rfl, by decide +kernel, by decide +kernel⟩

section
variable {P : Program} {w : World} {K : PySem.W.Frag} {mg : Str → Option Value} {base : Heap} {C : Addr}
theorem ok_are_chains (D : Def K mg "are_chains" s_are_chains ["numbers"]) (b_all : mg "all" = none) (c_CHAINS : ∃ t, mg "CHAINS" = some (.int 8 t)) : Cal P w K mg base 1 "are_chains" (spAreChains K) := by
  refine D.cal sc_are_chains (fun vs H Q E h => ?_) (fun fa cdv A outer st H vs Q E hr h => ?_)
  · obtain ⟨a, ns, rfl, _⟩ := h
    rfl
  · obtain ⟨a, ns, rfl, hS, hlen, q⟩ := h
    refine ⟨_, (pss_one (ps_ret (pe_callB (cr_all rfl) (by rfl) b_all (by decide +kernel) (pa_cons (pe_lc (own := [("number", 1)]) (g := gName 1) (by rfl) sc_are_chains.nd (pi_list (pv 0)) (blkOk_by (own := [("number", 1)]) (N := ["numbers", "number"]) (sc := defScope s_are_chains) (by decide +kernel)) (fun _ _ _ _ _ => pg_name (i := 1) sc_are_chains.nd rfl (Or.inl rfl)) (fun _ _ _ _ _ => pts_nil) (fun _ _ _ _ _ => (pe_chain op_le op_lt pe_int (pv 1) (pe_gi (by rfl) c_CHAINS)))) pa_nil)))), ?_⟩
    refine ⟨_, rfl, a, rfl, ⟨_, hS⟩, fun d nd => lc_list (K := K) (a := a) (xs := iv ns) (fun i H' => Same H H' ∧ H' d = some (.lst (((ns.take i).map (isWord 8)).map V.bl))) ⟨same_upd nd, ?_⟩ (fun i H' _ h => h.1.seq hS) ?_ ?_⟩
    · rw [upd_same]
      rfl
    · rintro i x H' hx ⟨sm, hd⟩
      obtain ⟨z, hz, rfl⟩ := iv_get hx
      have fin : ∀ b, b = isWord 8 z → ∃ acc, H' d = some (.lst acc) ∧ acc.length < sizeLine ∧ Same H (upd H' d (.lst (acc ++ [.bl b]))) ∧ (upd H' d (.lst (acc ++ [.bl b]))) d = some (.lst (((ns.take (i + 1)).map (isWord 8)).map V.bl)) := fun b hb => by
        refine ⟨_, hd, ?_, fun c o e => ?_, ?_⟩
        · rw [List.length_map, List.length_map, List.length_take]
          exact small1000 (by omega)
        · rw [upd_ne (ne_of_none e nd)]
          exact sm _ _ e
        · rw [upd_same, take_more hz, List.map_append, List.map_append, hb]
          rfl
      refine ⟨rfl, ?_⟩
      dsimp only [tYes]
      rw [if_pos rfl]
      refine ⟨_, rfl, _, _, rfl, rfl, _, rfl, ite2 (fun c => ?_) (fun c => ?_)⟩
      · have c := of_decide_eq_true c
        refine ⟨_, _, rfl, rfl, fin _ ?_⟩
        unfold isWord
        rw [decide_eq_true c, Bool.true_and]
      · have c : ¬ 0 ≤ z := fun t => c (decide_eq_true t)
        refine fin _ ?_
        unfold isWord
        rw [decide_eq_false c, Bool.false_and]
    · rintro H' ⟨sm, hd⟩
      rw [List.length_map, List.take_length] at hd
      refine ⟨d, ns.map (isWord 8), rfl, SqL.of hd, ?_⟩
      rw [List.all_map]
      exact q H' sm

theorem ok_begin (T : CF K C) (D : DefM K C "begin" "Table.begin" s_Table_begin ["self", "bits"]) (C_size_of : Cal P w K mg base 1 "size_of" spSize) (b_range : mg "range" = none) (c_CHAINS : ∃ t, mg "CHAINS" = some (.int 8 t)) :
    Met P w K mg base 2 C "begin" (spBegin C) := by
  refine D.met sc_Table_begin (fun vs H Q E h => ?_) (fun fa cdv A outer st H vs Q E hr h => ?_)
  · obtain ⟨N, a, dx, x, y, n, rfl, _⟩ := h
    rfl
  · obtain ⟨N, a, dx, x, y, n, rfl, hA, n1, n2, hN, q⟩ := h
    refine ⟨_, (pss_cons (ps_fld (pv 0) (pe_c C_size_of hr (by decide) (by rfl) (pa_cons (pv 1) pa_nil)) rfl)
    (pss_one (ps_fld (pv 0) (pe_lc (own := [("place", 2)]) (g := gName 2) (by rfl) sc_Table_begin.nd (pi_range1 (by rfl) b_range (pa_cons (pe_gi (by rfl) c_CHAINS) pa_nil)) (blkOk_by (own := [("place", 2)]) (N := ["self", "bits", "place"]) (sc := defScope s_Table_begin) (by decide +kernel)) (fun _ _ _ _ _ => pg_name (i := 2) sc_Table_begin.nd rfl (Or.inl rfl)) (fun _ _ _ _ _ => pts_nil) (fun _ _ _ _ _ => (pe_lst (pa_cons pe_int pa_nil)))) rfl))), ?_⟩
    refine ⟨_, rfl, n, rfl, n2, _, rfl, a, C, dx, _, rfl, hA, T.cl, T.nS, (by show 2 < 1000; decide), ?_⟩
    rw [fF_setSize]
    generalize hH1 : upd H a (.ins C dx (fF (.int (2 ^ n : Nat)) y)) = H1
    have hA1 : H1 a = some (.ins C dx (fF (.int (2 ^ n : Nat)) y)) := by rw [← hH1, upd_same]
    have k1 : ∀ b o, H b = some o → b ≠ a → H1 b = some o := fun b o e ne => by rw [← hH1, upd_ne ne]; exact e
    refine ⟨8, rfl, by decide, by decide, fun d nd => ?_⟩
    refine lc_range (lo := 0) (n := 8) (fun i H' => Same H1 H' ∧ ∃ ps : List Addr, ps.length = i ∧ H' d = some (.lst (ps.map V.ref)) ∧ (∀ p ∈ ps, p ≠ d ∧ ¬ N p ∧ H' p = some (.lst [.int 0]))) ⟨same_upd nd, [], rfl, ?_, ?_⟩ ?_ ?_
    · rw [upd_same]; rfl
    · intro p hp; cases hp
    · rintro i H' hi ⟨sm, ps, hl, hd, hps⟩
      refine ⟨rfl, ?_⟩
      dsimp only [tYes]
      rw [if_pos rfl]
      refine ⟨(by show 1 ≤ sizeLine; decide), fun p np => ?_⟩
      have npd : d ≠ p := ne_of_none hd np
      refine ⟨ps.map V.ref, by rw [upd_ne npd]; exact hd, by rw [List.length_map, hl]; exact small1000 (by omega), ?_, ps ++ [p], by rw [List.length_append, hl]; rfl, ?_, ?_⟩
      · intro b o e
        rw [upd_ne (ne_of_none e nd), upd_ne (ne_of_none (sm _ _ e) np)]
        exact sm _ _ e
      · rw [upd_same, List.map_append]
        rfl
      · intro b hb
        rcases List.mem_append.mp hb with hb | hb
        · obtain ⟨e1, e0, e2⟩ := hps b hb
          refine ⟨e1, e0, ?_⟩
          rw [upd_ne e1, upd_ne (ne_of_none e2 np)]
          exact e2
        · rw [List.mem_singleton] at hb
          subst hb
          refine ⟨npd.symm, fun hb => ?_, ?_⟩
          · obtain ⟨o, e⟩ := hN b hb
            by_cases z : b = a
            · rw [z, sm _ _ hA1] at np; cases np
            · rw [sm _ _ (k1 b o e z)] at np; cases np
          · rw [upd_ne npd.symm, upd_same]
    · rintro H' ⟨sm, ps, hl, hd, hps⟩
      refine ⟨_, rfl, a, C, dx, _, rfl, sm _ _ hA1, T.cl, T.nH, (by show 2 < 1000; decide), ?_⟩
      rw [fF_setHeld]
      have nda : d ≠ a := (ne_of_none hA1 nd).symm
      have hnd : H d = none := by
        cases e : H d with
        | none => rfl
        | some o => rw [k1 d o e nda] at nd; cases nd
      refine q _ d (fun b o e ne => ?_) hnd ⟨⟨dx, ps, upd_same, ?_, hl, fun p hp => ⟨(hps p hp).1, (hps p hp).2.1⟩, fun i p c e1 e2 => ?_⟩, nda.symm, fun b hb => ?_⟩
      · rw [upd_ne ne]
        exact sm _ _ (k1 b o e ne)
      · rw [upd_ne nda]
        exact hd
      · have hp := hps p (List.mem_of_getElem? e1)
        have hpa : p ≠ a := by
          intro z
          have h2 := hp.2.2
          rw [z, sm _ _ hA1] at h2
          cases h2
        rw [upd_ne hpa, hp.2.2]
        have ec : c = [0] := by
          have : (List.replicate 8 [0])[i]? = some c := e2
          rw [List.getElem?_replicate] at this
          split at this
          · exact (Option.some.inj this).symm
          · cases this
        subst ec
        rfl
      · obtain ⟨o, e⟩ := hN b hb
        by_cases z : b = a
        · rw [z]; exact ⟨_, upd_same⟩
        · refine ⟨o, ?_⟩
          rw [upd_ne z]
          exact sm _ _ (k1 b o e z)

theorem ok_init (T : CF K C) (D : DefK K mg "Table" C "Table.__init__" s_Table_init ["self"]) (M_begin : Met P w K mg base 2 C "begin" (spBegin C)) (c_FIRST_BITS : ∃ t, mg "FIRST_BITS" = some (.int 8 t)) : Mak P w K mg base 3 "Table" C (spInit C) := by
  refine D.mak sc_Table_init (fun vs H Q E h => ?_) (fun fa cdv A outer st H vs Q E hr h => ?_)
  · obtain ⟨N, a, dx, rfl, _⟩ := h
    rfl
  · obtain ⟨N, a, dx, rfl, hA, hN, q⟩ := h
    refine ⟨_, (pss_cons (ps_fld (pv 0) pe_int rfl)
    (pss_cons (ps_fld (pv 0) (pe_lst pa_nil) rfl)
    (pss_one (ps_expr (pe_mt M_begin hr (by decide) (pv 0) (pa_cons (pe_gi (by rfl) c_FIRST_BITS) pa_nil)))))), ?_⟩
    refine ⟨_, rfl, a, C, dx, [], rfl, hA, T.cl, T.nS, (by show 0 < 1000; decide), ?_⟩
    refine ⟨Nat.zero_le _, fun p np => ?_⟩
    have npa : a ≠ p := ne_of_none upd_same np
    refine ⟨_, rfl, a, C, dx, _, rfl, by rw [upd_ne npa, upd_same], T.cl, T.nH, (by show 1 < 1000; decide), ?_⟩
    rw [fF_new]
    have hp : H p = none := by
      rw [upd_ne npa.symm] at np
      exact np
    refine ⟨_, rfl, a, dx, _, rfl, upd_same, fF_begin _ _, N, a, dx, _, _, 8, rfl, upd_same, by decide, by decide, fun b hb => ?_, fun H' l k hl t => ?_⟩
    · obtain ⟨o, e⟩ := hN b hb
      by_cases z : b = a
      · rw [z]; exact ⟨_, upd_same⟩
      · refine ⟨o, ?_⟩
        rw [upd_ne z, upd_ne (ne_of_none e hp), upd_ne z]
        exact e
    have hl0 : H l = none := by
      by_cases e : l = a
      · rw [e, upd_same] at hl; cases hl
      · rw [upd_ne e] at hl
        by_cases e2 : l = p
        · rw [e2]; exact hp
        · rw [upd_ne e2, upd_ne e] at hl
          exact hl
    refine q H' l (fun b o e ne => k b o ?_ ne) hl0 t
    rw [upd_ne ne, upd_ne (ne_of_none e hp), upd_ne ne]
    exact e

theorem chain_at {m : Cm05.St} {x : Nat} (h : x < m.chains.length) : m.chains[x]? = some (Cm05.chainAt m x) := by
  unfold Cm05.chainAt
  rw [List.getD_eq_getElem?_getD, List.getElem?_eq_getElem h]
  rfl
theorem ok_words_of (T : CF K C) (D : DefM K C "words_of" "Table.words_of" s_Table_words_of ["self", "place"]) (b_list : mg "list" = none) : Met P w K mg base 1 C "words_of" (spWordsOf C) := by
  refine D.met sc_Table_words_of (fun vs H Q E h => ?_) (fun fa cdv A outer st H vs Q E hr h => ?_)
  · obtain ⟨N, a, l, m, x, rfl, _⟩ := h
    rfl
  · obtain ⟨N, a, l, m, x, rfl, ⟨⟨dx, ps, h1, h2, h3, h4, h5⟩, ne, nn⟩, hx, q⟩ := h
    refine ⟨_, (pss_one (ps_ret (pe_callTy call_list_of (by rfl) b_list (by decide +kernel) (pa_cons (pe_ix ix_list (pe_fld (pv 0) rfl) (pv 1) (fun _ _ => rfl)) pa_nil)))), ?_⟩
    have hp : ps[x]? = some ps[x] := List.getElem?_eq_getElem (by omega)
    have hc := chain_at hx
    refine ⟨_, rfl, a, C, dx, _, _, rfl, h1, T.cl, T.nH, fF_held _ _, _, rfl, l, _, (x : Int), _, rfl, rfl, SqL.of h2, atI_nat (j := x) (v := V.ref ps[x]) ?_, ps[x], _, rfl, .inl (SqL.of (h5 x _ _ hp hc)), q⟩
    rw [List.getElem?_map, hp]
    rfl

theorem ixN_nat {n x : Nat} (h : x < n) : ixN n (x : Int) = some x := by
  unfold ixN
  rw [if_pos (by omega), if_pos (by omega), Int.toNat_natCast]
theorem ok_put (T : CF K C) (D : DefM K C "put" "Table.put" s_Table_put ["self", "place", "words"]) (C_trim : Cal P w K mg base 1 "without_end_noughts" (spTrim K)) (b_len : mg "len" = none) (c_LONGEST : ∃ t, mg "LONGEST" = some (.int 8 t)) :
    Met P w K mg base 2 C "put" (spPut K C) := by
  refine D.met sc_Table_put (fun vs H Q E h => ?_) (fun fa cdv A outer st H vs Q E hr h => ?_)
  · obtain ⟨N, a, l, wl, m, x, c, rfl, _⟩ := h
    rfl
  · obtain ⟨N, a, l, wl, m, x, c, rfl, ⟨⟨dx, ps, h1, h2, h3, h4, h5⟩, ne, nn⟩, hx, hw, hc, qF, qT⟩ := h
    refine ⟨_, (pss_cons (ps_set (i := 3) sc_Table_put.nd rfl (Or.inl rfl) (pe_c C_trim hr (by decide) (by rfl) (pa_cons (pv 2) pa_nil)))
    (pss_cons (ps_if (pt_cmpR op_gt (pe_callB call_len_seq (by rfl) b_len (by decide +kernel) (pa_cons (pv 3) pa_nil)) (pe_gi (by rfl) c_LONGEST) (nomark _))
      (pss_one (ps_ret pe_bl))
      pss_nil)
    (pss_cons (ps_asg (pv 3) (pg_sub (pe_fld (pv 0) rfl) (pv 1) set_list))
    (pss_one (ps_ret pe_bl))))), ?_⟩
    refine ⟨_, rfl, wl, c, rfl, hw, hc, fun p np => ?_⟩
    have sm := same_upd (o := .lst (iv (zs (normal c)))) np
    have len : ((iv (zs (normal c))).length : Int) = ((normal c).length : Int) := by rw [List.length_map, List.length_map]
    refine ⟨_, rfl, p, _, rfl, .inl (SqL.of upd_same), _, _, rfl, rfl, _, rfl, ite2 (fun g => ?_) (fun g => ?_)⟩
    · have g := of_decide_eq_true g
      exact qF (by omega) _ sm
    · have g : ¬ (8 : Int) < ((iv (zs (normal c))).length : Int) := fun t => g (decide_eq_true t)
      have npl : l ≠ p := ne_of_none h2 np
      have npa : a ≠ p := ne_of_none h1 np
      refine ⟨_, rfl, _, rfl, a, C, dx, _, _, rfl, sm _ _ h1, T.cl, T.nH, fF_held _ _, _, rfl, l, _, (x : Int), x, rfl, rfl, sm _ _ h2, ixN_nat (by rw [List.length_map]; omega), ?_⟩
      refine qT (by omega) _ (fun b o e nb => ?_) ⟨⟨dx, ps.set x p, ?_, ?_, ?_, ?_, ?_⟩, ne, fun b hb => ?_⟩
      · rw [upd_ne nb]
        exact sm _ _ e
      · rw [upd_ne ne]
        exact sm _ _ h1
      · rw [upd_same, List.map_set]
      · rw [List.length_set, h3]
        show m.chains.length = (m.chains.set x (normal c)).length
        rw [List.length_set]
      · intro b hb
        rcases List.mem_or_eq_of_mem_set hb with hb | hb
        · exact h4 b hb
        · rw [hb]
          refine ⟨npl.symm, fun hn => ?_⟩
          obtain ⟨o, e⟩ := nn p hn
          rw [e] at np
          cases np
      · intro i b d e1 e2
        have e2 : (m.chains.set x (normal c))[i]? = some d := e2
        rw [List.getElem?_set] at e1 e2
        by_cases z : x = i
        · rw [if_pos z] at e1 e2
          split at e1
          · have e1 := Option.some.inj e1
            split at e2
            · have e2 := Option.some.inj e2
              rw [← e1, ← e2, upd_ne npl.symm, upd_same]
            · rename_i hh
              exact absurd hx hh
          · cases e1
        · rw [if_neg z] at e1 e2
          rw [upd_ne (h4 b (List.mem_of_getElem? e1)).1]
          exact sm _ _ (h5 i b d e1 e2)
      · obtain ⟨o, e⟩ := nn b hb
        by_cases z : b = l
        · rw [z]; exact ⟨_, upd_same⟩
        · refine ⟨o, ?_⟩
          rw [upd_ne z]
          exact sm _ _ e
end
end Wt
/-! turning.py -/
namespace Wt
open PySem PySem.Spec PyProof.Rows L2
open Cm05 (normal choose total)

/-! binomials, step by step -/
theorem choose_step (k i : Nat) : ((choose k i : Nat) : Int) * ((k : Int) - (i : Int)) / ((i : Int) + 1) = ((choose k (i + 1) : Nat) : Int) := by
  by_cases h : i ≤ k
  · rw [show (k : Int) - (i : Int) = ((k - i : Nat) : Int) by omega, ← Int.natCast_mul, show (i : Int) + 1 = ((i + 1 : Nat) : Int) by omega, ← Int.natCast_ediv]
    rfl
  · rw [choose_over (k := k) (j := i) (by omega), choose_over (k := k) (j := i + 1) (by omega)]
    simp
def part (c : List Nat) (k i : Nat) : Nat := total ((c.take i).zipIdx.map fun x => x.1 * choose k x.2)
theorem part_zero (c : List Nat) (k : Nat) : part c k 0 = 0 := rfl
theorem part_succ {c : List Nat} {k i x : Nat} (h : c[i]? = some x) : part c k (i + 1) = part c k i + x * choose k i := by
  have hi : i < c.length := (List.getElem?_eq_some_iff.mp h).1
  unfold part
  rw [take_more h, List.zipIdx_append, List.map_append, total_append, List.length_take, Nat.min_eq_left (by omega)]
  congr 1
  show total [x * choose k (0 + i)] = x * choose k i
  rw [total_cons, total_nil, Nat.zero_add]
  rfl
theorem part_all (c : List Nat) (k M : Nat) : part c k c.length % M = Cm05.at_ M c k := by
  unfold part Cm05.at_
  rw [List.take_length]
theorem at_zero_cons (M : Nat) (c : List Nat) (k : Nat) : Cm05.at_ M (0 :: c) k = Cm05.sum M c k := by
  unfold Cm05.at_ Cm05.sum
  rw [List.zipIdx_cons, List.map_cons, total_cons, Nat.zero_mul, Nat.zero_add, Nat.zero_add, List.zipIdx_succ, List.map_map]
  rfl

def Words32 (c : List Nat) : Prop := ∀ x ∈ c, x < 2 ^ 32
def spWA (K : PySem.W.Frag) : Sp := fun vs H Q _ => ∃ (a : Addr) (c : List Nat) (k M : Nat), vs = [.ref a, .int k, .int M] ∧ SqL K H a (iv (zs c)) ∧ 0 < M ∧ k < 2 ^ 40 ∧ c.length ≤ 100 ∧ Words32 c ∧
  ∀ H', Same H H' → Q (.int (Cm05.at_ M c k : Nat)) H'
def spSB (K : PySem.W.Frag) : Sp := fun vs H Q _ => ∃ (a : Addr) (c : List Nat) (k M : Nat), vs = [.ref a, .int k, .int M] ∧ H a = some (.lst (iv (zs c))) ∧ 0 < M ∧ k < 2 ^ 40 ∧ c.length ≤ 99 ∧ Words32 c ∧
  ∀ H', Same H H' → Q (.int (Cm05.sum M c k : Nat)) H'
def spWS : Sp := fun vs H Q _ => ∃ (a : Addr) (c : List Nat), vs = [.ref a] ∧ H a = some (.lst (iv (zs c))) ∧ c.length ≤ 99 ∧
  ∀ H' p, Same H H' → H p = none → H' p = some (.lst (iv (zs (0 :: c)))) → Q (.ref p) H'
def padTo (c : List Nat) (L : Nat) : List Nat := c ++ List.replicate (L - c.length) 0
def spPad : Sp := fun vs H Q _ => ∃ (a : Addr) (c : List Nat) (L : Nat), vs = [.ref a, .int L] ∧ H a = some (.lst (iv (zs c))) ∧ c.length ≤ 100 ∧ L ≤ 100 ∧
  ∀ H' p, Same H H' → H p = none → H' p = some (.lst (iv (zs (padTo c L)))) → Q (.ref p) H'
def mix (sg : Int) (M : Nat) (x y : Nat) : Nat := (((x : Int) + sg * (y : Int)) % (M : Int)).toNat
def mixed (sg : Int) (M : Nat) (c d : List Nat) : List Nat := (List.range (max c.length d.length)).map fun i => mix sg M (c.getD i 0) (d.getD i 0)
def spComb : Sp := fun vs H Q _ => ∃ (a b : Addr) (c d : List Nat) (sg : Int) (M : Nat), vs = [.ref a, .ref b, .int sg, .int M] ∧ H a = some (.lst (iv (zs c))) ∧ H b = some (.lst (iv (zs d))) ∧ c.length ≤ 100 ∧ d.length ≤ 100 ∧ (sg = 1 ∨ sg = -1) ∧ 0 < M ∧ M ≤ 2 ^ 32 ∧
  ∀ H' p, Same H H' → H p = none → H' p = some (.lst (iv (zs (mixed sg M c d)))) → Q (.ref p) H'

abbrev s_word_after : Stmt := topS 24
theorem sc_word_after : FnScope ["words", "turns", "size", "total", "choices", "place", "word"] ["words", "turns", "size"] (defScope s_word_after) := ⟨rfl, rfl, rfl, by decide +kernel, rfl, by decide +kernel, by decide +kernel⟩
abbrev s_with_sums : Stmt := topS 25
theorem sc_with_sums : FnScope ["words"] ["words"] (defScope s_with_sums) := ⟨rfl, rfl, rfl, by decide +kernel, rfl, by decide +kernel, by decide +kernel⟩
abbrev s_sum_before : Stmt := topS 26
theorem sc_sum_before : FnScope ["words", "turns", "size"] ["words", "turns", "size"] (defScope s_sum_before) := ⟨rfl, rfl, rfl, by decide +kernel, rfl, by decide +kernel, by decide +kernel⟩
abbrev s_padded : Stmt := topS 27
theorem sc_padded : FnScope ["words", "length"] ["words", "length"] (defScope s_padded) := ⟨rfl, rfl, rfl, by decide +kernel, rfl, by decide +kernel, by decide +kernel⟩
abbrev s_combined : Stmt := topS 28
theorem sc_combined : FnScope ["first", "second", "sign", "size", "length", "one", "other"] ["first", "second", "sign", "size"] (defScope s_combined) := ⟨rfl, rfl, rfl, by decide +kernel, rfl, by decide +kernel, by decide +kernel⟩

section
variable {P : Program} {w : World} {K : PySem.W.Frag} {mg : Str → Option Value} {base : Heap} {C : Addr}
theorem ok_word_after (D : Def K mg "word_after" s_word_after ["words", "turns", "size"]) (b_enumerate : mg "enumerate" = none) : Cal P w K mg base 1 "word_after" (spWA K) := by
  refine D.cal sc_word_after (fun vs H Q E h => ?_) (fun fa cdv A outer st H vs Q E hr h => ?_)
  · obtain ⟨a, c, k, M, rfl, _⟩ := h
    rfl
  · obtain ⟨a, c, k, M, rfl, hS, hM, hk, hlen, hw, q⟩ := h
    refine ⟨_, (pss_cons (ps_set (i := 3) sc_word_after.nd rfl (Or.inl rfl) pe_int)
    (pss_cons (ps_set (i := 4) sc_word_after.nd rfl (Or.inl rfl) pe_int)
    (pss_cons (ps_for PassesOwn.never rfl (pi_enum (by rfl) b_enumerate (pa_cons (pv 0) pa_nil)) (pg_tup (by rfl) (pgs_cons (pg_name (i := 5) sc_word_after.nd rfl (Or.inl rfl)) (pgs_cons (pg_name (i := 6) sc_word_after.nd rfl (Or.inl rfl)) pgs_nil)))
      (pss_cons (ps_set (i := 3) sc_word_after.nd rfl (Or.inl rfl) (pe_op op_add (pv 3) (pe_op op_mul (pv 4) (pv 6))))
    (pss_one (ps_set (i := 4) sc_word_after.nd rfl (Or.inl rfl) (pe_op op_fdivW (pe_op op_mul (pv 4) (pe_op op_sub (pv 1) (pv 5))) (pe_op op_add (pv 5) pe_int))))))
    (pss_one (ps_ret (pe_op op_mod (pv 3) (pv 2))))))), ?_⟩
    refine ⟨_, rfl, a, _, rfl, hS, for_it (walk_enum (K := K) (a := a) (xs := iv (zs c))) (fun i σ H' => Same H H' ∧ ∃ u v, σ = [some (.ref a), some (.int k), some (.int M), some (.int (part c k i : Nat)), some (.int (choose k i : Nat)), u, v]) ⟨.refl _, none, none, rfl⟩ (fun i σ H' _ h => h.1.seq hS) ?_ ?_⟩
    · rintro i v0 σ H' H2 hi0 ⟨sm, u, v, rfl⟩ ⟨T, x1, x, rfl, nT, rfl, e1, hx⟩
      have e1 := (Option.some.inj e1).symm
      subst e1
      obtain ⟨z, hz, rfl⟩ := iv_get hx
      obtain ⟨y, hy, rfl⟩ : ∃ y, c[i]? = some y ∧ z = (y : Int) := by
        rw [List.getElem?_map] at hz
        cases e : c[i]? with
        | none => rw [e] at hz; cases hz
        | some y => rw [e] at hz; exact ⟨y, rfl, (Option.some.inj hz).symm⟩
      have hi : i < c.length := (List.getElem?_eq_some_iff.mp hy).1
      have hy32 := hw y (List.mem_of_getElem? hy)
      refine ⟨T, _, rfl, SqT.of upd_same, rfl, _, _, rfl, _, _, rfl, rfl, ?_⟩
      refine ⟨_, rfl, _, rfl, _, rfl, _, _, rfl, rfl, .inr ⟨by omega, by omega⟩, _, _, rfl, rfl, ?_⟩
      refine ⟨_, rfl, _, rfl, _, rfl, _, _, rfl, rfl, _, _, rfl, rfl, .inr ⟨by omega, by omega⟩, _, rfl, _, _, rfl, rfl, _, _, rfl, rfl, wide_div (b := 32) (by omega) (by omega) (by decide) (by decide), ?_⟩
      refine ⟨sm.trans (same_upd nT), some (.int (i : Nat)), some (.int (y : Nat)), ?_⟩
      dsimp only
      rw [choose_step, part_succ hy, Nat.mul_comm y, Int.natCast_add, Int.natCast_mul]
      rfl
    · rintro σ H' ⟨sm, u, v, rfl⟩
      rw [List.length_map, List.length_map]
      refine ⟨_, rfl, _, rfl, _, _, rfl, rfl, by omega, ?_⟩
      dsimp only
      rw [← Int.natCast_emod, part_all]
      exact q H' sm
theorem ok_with_sums (D : Def K mg "with_sums" s_with_sums ["words"]) : Cal P w K mg base 1 "with_sums" spWS := by
  refine D.cal sc_with_sums (fun vs H Q E h => ?_) (fun fa cdv A outer st H vs Q E hr h => ?_)
  · obtain ⟨a, c, rfl, _⟩ := h
    rfl
  · obtain ⟨a, c, rfl, hS, hlen, q⟩ := h
    refine ⟨_, (pss_one (ps_ret (pe_op op_cat (pe_lst (pa_cons pe_int pa_nil)) (pv 0)))), ?_⟩
    refine ⟨(by show 1 ≤ sizeLine; decide), fun p np => ?_⟩
    have s1 := same_upd (o := .lst [.int 0]) np
    refine ⟨_, rfl, p, a, _, _, rfl, rfl, upd_same, s1 _ _ hS, ?_, fun r nr => ?_⟩
    · rw [List.length_map, List.length_map]
      exact Nat.le_of_lt (small1000 (by show 1 + c.length ≤ 1000; omega))
    · have s2 := same_upd (o := .lst ([.int 0] ++ iv (zs c))) nr
      exact q _ r (s1.trans s2) (s1.free nr) upd_same
theorem ok_sum_before (D : Def K mg "sum_before" s_sum_before ["words", "turns", "size"]) (C_word_after : Cal P w K mg base 1 "word_after" (spWA K)) (C_with_sums : Cal P w K mg base 1 "with_sums" spWS) : Cal P w K mg base 2 "sum_before" (spSB K) := by
  refine D.cal sc_sum_before (fun vs H Q E h => ?_) (fun fa cdv A outer st H vs Q E hr h => ?_)
  · obtain ⟨a, c, k, M, rfl, _⟩ := h
    rfl
  · obtain ⟨a, c, k, M, rfl, hS, hM, hk, hlen, hw, q⟩ := h
    refine ⟨_, (pss_one (ps_ret (pe_c C_word_after hr (by decide) (by rfl) (pa_cons (pe_c C_with_sums hr (by decide) (by rfl) (pa_cons (pv 0) pa_nil)) (pa_cons (pv 1) (pa_cons (pv 2) pa_nil)))))), ?_⟩
    refine ⟨_, rfl, a, c, rfl, hS, hlen, fun H1 r s1 nr hr1 => ?_⟩
    refine ⟨_, rfl, _, rfl, r, 0 :: c, k, M, rfl, SqL.of hr1, hM, hk, by show c.length + 1 ≤ 100; omega, fun x hx => ?_, fun H' s3 => ?_⟩
    · rcases List.mem_cons.mp hx with rfl | hx
      · decide
      · exact hw x hx
    · rw [at_zero_cons]
      exact q H' (s1.trans s3)
theorem rep_zero (k : Nat) : (List.replicate k [V.int 0]).flatten = iv (zs (List.replicate k 0)) := by
  induction k with
  | zero => rfl
  | succ k ih =>
    rw [List.replicate_succ, List.flatten_cons, ih, List.replicate_succ]
    rfl
theorem ok_padded (D : Def K mg "padded" s_padded ["words", "length"]) (b_len : mg "len" = none) : Cal P w K mg base 1 "padded" spPad := by
  refine D.cal sc_padded (fun vs H Q E h => ?_) (fun fa cdv A outer st H vs Q E hr h => ?_)
  · obtain ⟨a, c, L, rfl, _⟩ := h
    rfl
  · obtain ⟨a, c, L, rfl, hA, hlen, hL, q⟩ := h
    refine ⟨_, (pss_one (ps_ret (pe_op op_cat (pv 0) (pe_op op_rep (pe_lst (pa_cons pe_int pa_nil)) (pe_op op_sub (pv 1) (pe_callB call_len_seq (by rfl) b_len (by decide +kernel) (pa_cons (pv 0) pa_nil))))))), ?_⟩
    refine ⟨_, rfl, (by show 1 ≤ sizeLine; decide), fun p np => ?_⟩
    have s1 := same_upd (o := .lst [.int 0]) np
    have el : ((iv (zs c)).length : Int) = (c.length : Int) := by rw [List.length_map, List.length_map]
    refine ⟨_, rfl, _, rfl, a, _, rfl, .inl (SqL.of (s1 _ _ hA)), _, _, rfl, rfl, p, _, _, rfl, rfl, upd_same, by rw [el]; omega, by rw [el]; omega, ?_, fun r nr => ?_⟩
    · rw [el]
      exact Nat.le_of_lt (small1000 (by show 1 * ((L : Int) - (c.length : Int)).toNat ≤ 1000; omega))
    · rw [el, rep_zero, show ((L : Int) - (c.length : Int)).toNat = L - c.length by omega] at *
      have s2 := same_upd (o := .lst (iv (zs (List.replicate (L - c.length) 0)))) nr
      refine ⟨a, r, _, _, rfl, rfl, s2 _ _ (s1 _ _ hA), upd_same, ?_, fun t nt => ?_⟩
      · rw [List.length_map, List.length_map, List.length_map, List.length_map, List.length_replicate]
        exact Nat.le_of_lt (small1000 (by omega))
      · refine q _ t ((s1.trans s2).trans (same_upd nt)) ((s1.trans s2).free nt) ?_
        rw [upd_same]
        unfold padTo
        simp only [iv, zs, List.map_append]
theorem padTo_length (c : List Nat) {L : Nat} (h : c.length ≤ L) : (padTo c L).length = L := by
  unfold padTo
  rw [List.length_append, List.length_replicate]
  omega
theorem padTo_get (c : List Nat) {L i : Nat} (h : i < L) (hc : c.length ≤ L) : (padTo c L)[i]? = some (c.getD i 0) := by
  unfold padTo
  rw [List.getD_eq_getElem?_getD]
  by_cases z : i < c.length
  · rw [List.getElem?_append_left z, List.getElem?_eq_getElem z]
    rfl
  · rw [List.getElem?_append_right (by omega), List.getElem?_replicate, if_pos (by omega), List.getElem?_eq_none (by omega)]
    rfl
theorem ok_combined (D : Def K mg "combined" s_combined ["first", "second", "sign", "size"]) (C_padded : Cal P w K mg base 1 "padded" spPad) (b_len : mg "len" = none) (b_max : mg "max" = none) (b_zip : mg "zip" = none) : Cal P w K mg base 2 "combined" spComb := by
  refine D.cal sc_combined (fun vs H Q E h => ?_) (fun fa cdv A outer st H vs Q E hr h => ?_)
  · obtain ⟨a, b, c, d, sg, M, rfl, _⟩ := h
    rfl
  · obtain ⟨a, b, c, d, sg, M, rfl, hA, hB, hc, hd, hsg, hM, hM32, q⟩ := h
    refine ⟨_, (pss_cons (ps_set (i := 4) sc_combined.nd rfl (Or.inl rfl) (pe_callB (call_max2 rfl) (by rfl) b_max (by decide +kernel) (pa_cons (pe_callB call_len_seq (by rfl) b_len (by decide +kernel) (pa_cons (pv 0) pa_nil)) (pa_cons (pe_callB call_len_seq (by rfl) b_len (by decide +kernel) (pa_cons (pv 1) pa_nil)) pa_nil))))
    (pss_one (ps_ret (pe_lc (own := [("one", 5), ("other", 6)]) (g := gTup K 2 (gCons (gName 5) (gCons (gName 6) gNil))) (by rfl) sc_combined.nd (pi_zip (by rfl) b_zip (pa_cons (pe_c C_padded hr (by decide) (by rfl) (pa_cons (pv 0) (pa_cons (pv 4) pa_nil))) (pa_cons (pe_c C_padded hr (by decide) (by rfl) (pa_cons (pv 1) (pa_cons (pv 4) pa_nil))) pa_nil))) (blkOk_by (own := [("one", 5), ("other", 6)]) (N := ["first", "second", "sign", "size", "length", "one", "other"]) (sc := defScope s_combined) (by decide +kernel)) (fun _ _ _ _ _ => pg_tup (by rfl) (pgs_cons (pg_name (i := 5) sc_combined.nd rfl (Or.inl rfl)) (pgs_cons (pg_name (i := 6) sc_combined.nd rfl (Or.inl rfl)) pgs_nil))) (fun _ _ _ _ _ => pts_nil) (fun _ _ _ _ _ => (pe_op op_mod (pe_op op_add (pv 5) (pe_op op_mul (pv 2) (pv 6))) (pv 3))))))), ?_⟩
    have ec : ((iv (zs c)).length : Int) = (c.length : Int) := by rw [List.length_map, List.length_map]
    have ed : ((iv (zs d)).length : Int) = (d.length : Int) := by rw [List.length_map, List.length_map]
    generalize hL : max c.length d.length = L
    have em : (if ((iv (zs d)).length : Int) > ((iv (zs c)).length : Int) then ((iv (zs d)).length : Int) else ((iv (zs c)).length : Int)) = (L : Int) := by
      rw [ec, ed]
      split <;> omega
    refine ⟨_, rfl, a, _, rfl, .inl (SqL.of hA), _, rfl, b, _, rfl, .inl (SqL.of hB), _, _, rfl, ?_⟩
    rw [em]
    refine ⟨_, rfl, _, rfl, a, c, L, rfl, hA, hc, by omega, fun H1 p s1 np hp => ?_⟩
    refine ⟨_, rfl, _, rfl, b, d, L, rfl, s1 _ _ hB, hd, by omega, fun H2 r s2 nr hr2 => ?_⟩
    have lc := padTo_length c (L := L) (by omega)
    have ld := padTo_length d (L := L) (by omega)
    refine ⟨p, r, _, _, rfl, SqL.of (s2 _ _ hp), SqL.of hr2, fun e ne => ?_⟩
    refine lc_it (walk_zip (K := K) (a := p) (b := r) (xs := iv (zs (padTo c L))) (ys := iv (zs (padTo d L))) (n := L) (by rw [List.length_map, List.length_map, List.length_map, List.length_map, lc, ld]; omega))
      (fun i H' => Same H2 H' ∧ H' e = some (.lst (iv (zs ((mixed sg M c d).take i))))) ⟨same_upd ne, by rw [upd_same]; rfl⟩ (fun i H' _ h => ⟨h.1.seq (SqL.of (s2 _ _ hp)), h.1.seq (SqL.of hr2)⟩) ?_ ?_
    · rintro i v0 H' H5 hi0 ⟨sm, he⟩ ⟨T, x, y, rfl, nT, rfl, hx, hy⟩
      dsimp only at hx hy
      have hi : i < L := by
        have := (List.getElem?_eq_some_iff.mp hx).1
        rw [List.length_map, List.length_map, lc] at this
        exact this
      have ex : x = .int ((c.getD i 0 : Nat) : Int) := by
        rw [List.getElem?_map, List.getElem?_map, padTo_get c hi (by omega)] at hx
        exact (Option.some.inj hx).symm
      have ey : y = .int ((d.getD i 0 : Nat) : Int) := by
        rw [List.getElem?_map, List.getElem?_map, padTo_get d hi (by omega)] at hy
        exact (Option.some.inj hy).symm
      subst ex ey
      refine ⟨T, _, rfl, SqT.of upd_same, rfl, _, _, rfl, _, _, rfl, rfl, rfl, ?_⟩
      dsimp only [tYes]
      rw [if_pos rfl]
      refine ⟨_, rfl, _, rfl, _, rfl, _, _, rfl, rfl, .inl ⟨by omega, by omega⟩, _, _, rfl, rfl, _, rfl, _, _, rfl, rfl, by omega, ?_⟩
      have net : e ≠ T := ne_of_none he nT
      refine ⟨_, by rw [upd_ne net]; exact he, ?_, ?_, ?_⟩
      · rw [List.length_map, List.length_map, List.length_take]
        exact small1000 (by omega)
      · intro f o h
        rw [upd_ne (ne_of_none h ne), upd_ne (ne_of_none (sm _ _ h) nT)]
        exact sm _ _ h
      · have hm : (mixed sg M c d)[i]? = some (mix sg M (c.getD i 0) (d.getD i 0)) := by
          unfold mixed
          rw [hL, List.getElem?_map, List.getElem?_range hi]
          rfl
        rw [upd_same, take_more hm]
        simp only [iv, zs, List.map_append]
        have ez : ((mix sg M (c.getD i 0) (d.getD i 0) : Nat) : Int) = (((c.getD i 0 : Nat) : Int) + sg * ((d.getD i 0 : Nat) : Int)) % (M : Int) := by
          unfold mix
          rw [Int.toNat_of_nonneg (Int.emod_nonneg _ (by omega))]
        show _ = some (HO.lst (_ ++ [V.int ((mix sg M (c.getD i 0) (d.getD i 0) : Nat) : Int)]))
        rw [ez]
    · rintro H' ⟨sm, he⟩
      rw [List.take_of_length_le (by unfold mixed; rw [List.length_map, List.length_range]; omega)] at he
      exact q H' e ((s1.trans s2).trans sm) ((s1.trans s2).free ne) he
end
end Wt
/-! chains.py: the calls -/
namespace Wt
open PySem PySem.Spec PyProof.Rows L2
open Cm05 (normal)

/-- what a call is worth: the table behind it, and its answer as a new list -/
def Res (C : Addr) (N : Addr → Prop) (H : Hp) (a l : Addr) (r : Cm05.St × List Int) (Q : VK) : Prop :=
  ∀ (H' : Hp) (l' p : Addr), Keep H H' a l → (l' = l ∨ H l' = none) → TblAt C N H' a l' r.1 → H p = none → H' p = some (.lst (iv r.2)) → Q (.ref p) H'
theorem Res.plain {C : Addr} {N : Addr → Prop} {H H' : Hp} {a l p : Addr} {m : Cm05.St} {out : List Int} {Q : VK} (t : TblAt C N H a l m) (q : Res C N H a l (m, out) Q) (s : Same H H') (np : H p = none) (hp : H' p = some (.lst (iv out))) : Q (.ref p) H' :=
  q H' l p (Keep.of_same s) (.inl rfl) (t.same s) np hp
theorem Res.new {C : Addr} {N : Addr → Prop} {H H1 : Hp} {a l p : Addr} {m : Cm05.St} {out : List Int} {Q : VK} (t : TblAt C N H a l m) (q : Res C N H a l (m, out) Q) (s : Same H H1) (np : H1 p = none) : Q (.ref p) (upd H1 p (.lst (iv out))) :=
  q.plain t (s.trans (same_upd np)) (s.free np) upd_same
/-- the promise of a call's def: R says which call the numbers are -/
def spCall (K : PySem.W.Frag) (C : Addr) (R : List Int → Cm05.Call → Prop) : Sp := fun vs H Q _ => ∃ (N : Addr → Prop) (a l nl : Addr) (m : Cm05.St) (ns : List Int) (x : Cm05.Call), vs = [.ref a, .ref nl] ∧ TblAt C N H a l m ∧ Good m ∧ SqL K H nl (iv ns) ∧ R ns x ∧ Res C N H a l (Cm05.step m x) Q
theorem spCall_len {K : PySem.W.Frag} {C : Addr} {R : List Int → Cm05.Call → Prop} (vs : List V) (H : Hp) (Q : VK) (E : XK) (h : spCall K C R vs H Q E) : vs.length = ["table", "numbers"].length := by
  obtain ⟨N, a, l, nl, m, ns, x, rfl, _⟩ := h
  rfl

theorem tbl_ins {C : Addr} {N : Addr → Prop} {H : Hp} {a l : Addr} {m : Cm05.St} (t : TblAt C N H a l m) : ∃ dx, H a = some (.ins C dx (fF (.int (2 ^ m.n : Nat)) (.ref l))) := by
  obtain ⟨⟨dx, ps, h1, _⟩, _⟩ := t
  exact ⟨dx, h1⟩
theorem isWord_nat (M x : Nat) : isWord (M : Int) (x : Int) = decide (x < M) := by
  unfold isWord
  rw [decide_eq_true (show (0 : Int) ≤ (x : Int) by omega), Bool.true_and]
  by_cases h : x < M
  · rw [decide_eq_true h, decide_eq_true (by omega)]
  · rw [decide_eq_false h, decide_eq_false (by omega)]
theorem all_words (m : Cm05.St) (ws : List Nat) : (zs ws).all (isWord ((2 ^ m.n : Nat) : Int)) = Cm05.words m ws := by
  unfold Cm05.words
  induction ws with
  | nil => rfl
  | cons x r ih =>
    show ((x : Int) :: zs r).all (isWord ((2 ^ m.n : Nat) : Int)) = _
    rw [List.all_cons, List.all_cons, isWord_nat, ih]
theorem all_chains (ws : List Nat) : (zs ws).all (isWord 8) = ws.all Cm05.isChain := by
  induction ws with
  | nil => rfl
  | cons x r ih =>
    show ((x : Int) :: zs r).all (isWord 8) = _
    rw [List.all_cons, List.all_cons, ih, show (8 : Int) = ((8 : Nat) : Int) from rfl, isWord_nat]
    rfl
theorem words_mem {m : Cm05.St} {ws : List Nat} (h : Cm05.words m ws = true) : ∀ x ∈ ws, x < 2 ^ m.n := fun x hx => by
  unfold Cm05.words at h
  rw [List.all_eq_true] at h
  exact of_decide_eq_true (h x hx)
theorem pow32 {n : Nat} (h : n ≤ 32) : 2 ^ n ≤ 2 ^ 32 := Nat.pow_le_pow_right (by decide) h
theorem Good.chain {m : Cm05.St} (g : Good m) {x : Nat} (h : x < 8) : Cm05.chainAt m x ≠ [] ∧ (Cm05.chainAt m x).length ≤ 8 ∧ normal (Cm05.chainAt m x) = Cm05.chainAt m x ∧ ∀ y ∈ Cm05.chainAt m x, y < 2 ^ m.n :=
  g.ch _ (List.mem_of_getElem? (chain_at (by rw [g.len]; exact h)))
theorem isChain_iff {x : Nat} : Cm05.isChain x = true ↔ x < 8 := by
  unfold Cm05.isChain
  rw [decide_eq_true_eq]
  exact Iff.rfl
theorem isChain_not {x : Nat} : Cm05.isChain x = false ↔ ¬ x < 8 := by
  unfold Cm05.isChain
  rw [decide_eq_false_iff_not]
  exact Iff.rfl

/-- what the top says of plain things -/
structure Txt (K : PySem.W.Frag) (mg : Str → Option Value) (C : Addr) : Prop where
  cf : CF K C
  b_all : mg "all" = none
  b_len : mg "len" = none
  b_list : mg "list" = none
  b_max : mg "max" = none
  b_range : mg "range" = none
  b_zip : mg "zip" = none
  b_enumerate : mg "enumerate" = none
  c_CHAINS : ∃ t, mg "CHAINS" = some (.int 8 t)
  c_LONGEST : ∃ t, mg "LONGEST" = some (.int 8 t)
  c_FIRST_BITS : ∃ t, mg "FIRST_BITS" = some (.int 8 t)
  c_LAST_RELATION : ∃ t, mg "LAST_RELATION" = some (.int 8 t)
  c_OUT_OF_RANGE : ∃ t, mg "OUT_OF_RANGE" = some (.int (-1) t)
  c_NO_CHAIN : ∃ t, mg "NO_CHAIN" = some (.int (-2) t)
  c_NO_RELATION : ∃ t, mg "NO_RELATION" = some (.int (-4) t)
  c_TOO_LONG : ∃ t, mg "TOO_LONG" = some (.int (-5) t)
  c_MOST_BITS : ∃ t, mg "MOST_BITS" = some (.int 32 t)
  c_CHAIN : ∃ t, mg "CHAIN" = some (.int 3 t)
  b_min : mg "min" = none
  c_NO_PAIR : ∃ t, mg "NO_PAIR" = some (.int (-6) t)
  c_GREATEST_OF_ROWS : ∃ t, mg "GREATEST_OF_ROWS" = some (.int 1000000 t)

def outT : Option Nat → Nat → Nat → Nat → List Int
  | none, _, _, _ => [0]
  | some k, a, s, M => [1, (k : Int), (((a + s * k) % M : Nat) : Int)]
def spTurned : Sp := fun vs H Q _ => ∃ (o : Option Nat) (a s M : Nat), vs = [optV o, .int a, .int s, .int M] ∧ s < 2 ^ 33 ∧ 0 < M ∧ ∀ p, H p = none → Q (.ref p) (upd H p (.lst (iv (outT o a s M))))
def spShown (C : Addr) : Sp := fun vs H Q _ => ∃ (N : Addr → Prop) (a l : Addr) (m : Cm05.St) (x : Nat), vs = [.ref a, .int x] ∧ TblAt C N H a l m ∧ x < m.chains.length ∧ (Cm05.chainAt m x).length ≤ 100 ∧
  ∀ H' p, Same H H' → H p = none → H' p = some (.lst (iv (zs (Cm05.counted (Cm05.chainAt m x))))) → Q (.ref p) H'
def putAt (m : Cm05.St) (x : Nat) (c : List Nat) : Cm05.St × List Int := if 8 < c.length then (m, [-5]) else ({ m with chains := m.chains.set x c }, zs (Cm05.counted c))
def spStored (K : PySem.W.Frag) (C : Addr) : Sp := fun vs H Q _ => ∃ (N : Addr → Prop) (a l wl : Addr) (m : Cm05.St) (x : Nat) (c : List Nat), vs = [.ref a, .int x, .ref wl] ∧ TblAt C N H a l m ∧ x < m.chains.length ∧ SqL K H wl (iv (zs c)) ∧ c ≠ [] ∧
  Res C N H a l (putAt m x (normal c)) Q

abbrev s_turned : Stmt := topS 46
theorem sc_turned : FnScope ["count", "start", "step", "size"] ["count", "start", "step", "size"] (defScope s_turned) := ⟨rfl, rfl, rfl, by decide +kernel, rfl, by decide +kernel, by decide +kernel⟩
abbrev s_shown : Stmt := topS 49
theorem sc_shown : FnScope ["table", "place", "words"] ["table", "place"] (defScope s_shown) := ⟨rfl, rfl, rfl, by decide +kernel, rfl, by decide +kernel, by decide +kernel⟩
abbrev s_stored : Stmt := topS 48
theorem sc_stored : FnScope ["table", "place", "words"] ["table", "place", "words"] (defScope s_stored) := ⟨rfl, rfl, rfl, by decide +kernel, rfl, by decide +kernel, by decide +kernel⟩

section
variable {P : Program} {w : World} {K : PySem.W.Frag} {mg : Str → Option Value} {base : Heap} {C : Addr}
theorem ok_turned (D : Def K mg "turned" s_turned ["count", "start", "step", "size"]) : Cal P w K mg base 1 "turned" spTurned := by
  refine D.cal sc_turned (fun vs H Q E h => ?_) (fun fa cdv A outer st H vs Q E hr h => ?_)
  · obtain ⟨o, a, s, M, rfl, _⟩ := h
    rfl
  · obtain ⟨o, a, s, M, rfl, hs, hM, q⟩ := h
    refine ⟨_, (pss_cons (ps_if (pt_cmpR op_isN (pv 0) pe_non (nomark _))
      (pss_one (ps_ret (pe_lst (pa_cons pe_int pa_nil))))
      pss_nil)
    (pss_one (ps_ret (pe_lst (pa_cons pe_int (pa_cons (pv 0) (pa_cons (pe_op op_mod (pe_op op_add (pv 1) (pe_op op_mul (pv 0) (pv 2))) (pv 3)) pa_nil))))))), ?_⟩
    cases o with
    | none => exact ⟨_, rfl, rfl, _, rfl, iteT ⟨by show 1 ≤ sizeLine; decide, q⟩⟩
    | some k =>
      refine ⟨_, rfl, rfl, _, rfl, iteF ?_⟩
      refine ⟨_, rfl, _, rfl, _, rfl, _, rfl, _, _, rfl, rfl, .inr ⟨by omega, by omega⟩, _, _, rfl, rfl, _, rfl, _, _, rfl, rfl, by omega, by show 3 ≤ sizeLine; decide, fun p np => ?_⟩
      have e : ((a : Int) + (k : Int) * (s : Int)) % (M : Int) = (((a + s * k) % M : Nat) : Int) := by
        rw [Int.natCast_emod, Nat.mul_comm]
        rfl
      dsimp only
      rw [e]
      exact q p np
theorem ok_shown (T : Txt K mg C) (D : Def K mg "shown" s_shown ["table", "place"]) (M_words_of : Met P w K mg base 1 C "words_of" (spWordsOf C)) : Cal P w K mg base 2 "shown" (spShown C) := by
  refine D.cal sc_shown (fun vs H Q E h => ?_) (fun fa cdv A outer st H vs Q E hr h => ?_)
  · obtain ⟨N, a, l, m, x, rfl, _⟩ := h
    rfl
  · obtain ⟨N, a, l, m, x, rfl, t, hx, hl, q⟩ := h
    refine ⟨_, (pss_cons (ps_set (i := 2) sc_shown.nd rfl (Or.inl rfl) (pe_mt M_words_of hr (by decide) (pv 0) (pa_cons (pv 1) pa_nil)))
    (pss_one (ps_ret (pe_op op_cat (pe_lst (pa_cons (pe_callB call_len_seq (by rfl) T.b_len (by decide +kernel) (pa_cons (pv 2) pa_nil)) pa_nil)) (pv 2))))), ?_⟩
    obtain ⟨dx, hA⟩ := tbl_ins t
    refine ⟨_, rfl, a, dx, _, rfl, hA, fF_words _ _, _, rfl, N, a, l, m, x, rfl, t, hx, fun p np => ?_⟩
    have s1 := same_upd (o := .lst (iv (zs (Cm05.chainAt m x)))) np
    refine ⟨_, rfl, p, _, rfl, .inl (SqL.of upd_same), (by show 1 ≤ sizeLine; decide), fun r nr => ?_⟩
    have nrp : p ≠ r := ne_of_none upd_same nr
    have s2 := same_upd (o := .lst [.int ((iv (zs (Cm05.chainAt m x))).length : Int)]) nr
    refine ⟨_, rfl, r, p, _, _, rfl, rfl, upd_same, s2 _ _ upd_same, ?_, fun u nu => ?_⟩
    · rw [List.length_map, List.length_map]
      exact Nat.le_of_lt (small1000 (by show 1 + (Cm05.chainAt m x).length ≤ 1000; omega))
    · refine q _ u ((s1.trans s2).trans (same_upd nu)) ((s1.trans s2).free nu) ?_
      rw [upd_same, List.length_map, List.length_map]
      rfl
theorem ok_stored (T : Txt K mg C) (D : Def K mg "stored" s_stored ["table", "place", "words"]) (M_put : Met P w K mg base 2 C "put" (spPut K C)) (C_shown : Cal P w K mg base 2 "shown" (spShown C)) : Cal P w K mg base 3 "stored" (spStored K C) := by
  refine D.cal sc_stored (fun vs H Q E h => ?_) (fun fa cdv A outer st H vs Q E hr h => ?_)
  · obtain ⟨N, a, l, wl, m, x, c, rfl, _⟩ := h
    rfl
  · obtain ⟨N, a, l, wl, m, x, c, rfl, t, hx, hS, hc, q⟩ := h
    refine ⟨_, (pss_cons (ps_if (pt_not (pt_val (pe_mt M_put hr (by decide) (pv 0) (pa_cons (pv 1) (pa_cons (pv 2) pa_nil)))))
      (pss_one (ps_ret (pe_lst (pa_cons (pe_gi (by rfl) T.c_TOO_LONG) pa_nil))))
      pss_nil)
    (pss_one (ps_ret (pe_c C_shown hr (by decide) (by rfl) (pa_cons (pv 0) (pa_cons (pv 1) pa_nil)))))), ?_⟩
    obtain ⟨dx, hA⟩ := tbl_ins t
    refine ⟨_, rfl, a, dx, _, rfl, hA, fF_put _ _, _, rfl, _, rfl, N, a, l, wl, m, x, c, rfl, t, hx, hS, hc, fun h8 H' s => ?_, fun h8 H' k t' => ?_⟩
    · refine ⟨_, rfl, iteT ?_⟩
      unfold putAt at q
      rw [if_pos h8] at q
      exact ⟨by show 1 ≤ sizeLine; decide, fun p np => q.new t s np⟩
    · refine ⟨_, rfl, iteF ?_⟩
      unfold putAt at q
      rw [if_neg (by omega)] at q
      have hx' : x < (m.chains.set x (normal c)).length := by rw [List.length_set]; exact hx
      have ec : Cm05.chainAt { m with chains := m.chains.set x (normal c) } x = normal c := by
        unfold Cm05.chainAt
        show (m.chains.set x (normal c)).getD x [0] = normal c
        rw [List.getD_eq_getElem?_getD, List.getElem?_set_self hx]
        rfl
      refine ⟨_, rfl, _, rfl, N, a, l, _, x, rfl, t', hx', by rw [ec]; omega, fun H2 p s2 np hp => ?_⟩
      rw [ec] at hp
      have np0 : H p = none := by
        cases e : H p with
        | none => rfl
        | some o =>
          by_cases z : p = l
          · rw [z] at np
            obtain ⟨⟨_, _, _, h2, _⟩, _⟩ := t'
            rw [h2] at np
            cases np
          · rw [k p o e z] at np
            cases np
      exact q H2 l p (fun b o e nb nl => s2 _ _ (k b o e nl)) (.inl rfl) (t'.same s2) np0 hp
end
end Wt
/-! chains.py: the defs of the calls -/
namespace Wt
open PySem PySem.Spec PyProof.Rows L2
open Cm05 (normal)

abbrev s_width : Stmt := topS 43
theorem sc_width : FnScope ["table", "numbers", "bits"] ["table", "numbers"] (defScope s_width) := ⟨rfl, rfl, rfl, by decide +kernel, rfl, by decide +kernel, by decide +kernel⟩
abbrev s_turns : Stmt := topS 44
theorem sc_turns : FnScope ["table", "numbers", "relation", "start", "step"] ["table", "numbers"] (defScope s_turns) := ⟨rfl, rfl, rfl, by decide +kernel, rfl, by decide +kernel, by decide +kernel⟩
abbrev s_lands : Stmt := topS 45
theorem sc_lands : FnScope ["table", "numbers", "start", "step", "low", "high"] ["table", "numbers"] (defScope s_lands) := ⟨rfl, rfl, rfl, by decide +kernel, rfl, by decide +kernel, by decide +kernel⟩
abbrev s_chain : Stmt := topS 47
theorem sc_chain : FnScope ["table", "numbers", "place", "words"] ["table", "numbers"] (defScope s_chain) := ⟨rfl, rfl, rfl, by decide +kernel, rfl, by decide +kernel, by decide +kernel⟩
abbrev s_shows : Stmt := topS 50
theorem sc_shows : FnScope ["table", "numbers"] ["table", "numbers"] (defScope s_shows) := ⟨rfl, rfl, rfl, by decide +kernel, rfl, by decide +kernel, by decide +kernel⟩
abbrev s_at : Stmt := topS 51
theorem sc_at : FnScope ["table", "numbers"] ["table", "numbers"] (defScope s_at) := ⟨rfl, rfl, rfl, by decide +kernel, rfl, by decide +kernel, by decide +kernel⟩
abbrev s_sum_of : Stmt := topS 52
theorem sc_sum_of : FnScope ["table", "numbers"] ["table", "numbers"] (defScope s_sum_of) := ⟨rfl, rfl, rfl, by decide +kernel, rfl, by decide +kernel, by decide +kernel⟩

section
variable {P : Program} {w : World} {K : PySem.W.Frag} {mg : Str → Option Value} {base : Heap} {C : Addr}
theorem ok_width (T : Txt K mg C) (D : Def K mg "width" s_width ["table", "numbers"]) (M_begin : Met P w K mg base 2 C "begin" (spBegin C)) : Cal P w K mg base 3 "width" (spCall K C R0) := by
  refine D.cal sc_width spCall_len (fun fa cdv A outer st H vs Q E hr h => ?_)
  obtain ⟨N, a, l, nl, m, ns, x, rfl, t, g, hS, ⟨n, rfl, hn, rfl⟩, q⟩ := h
  refine ⟨_, (pss_cons (ps_set (i := 2) sc_width.nd rfl (Or.inl rfl) (pe_ix ix_list (pv 1) pe_int (fun _ _ => rfl)))
    (pss_cons (ps_if (PW.pt (pw_or (pt_cmpR op_lt (pv 2) pe_int (nomark _)) (pw_or1 (pt_cmpR op_gt (pv 2) (pe_gi (by rfl) T.c_MOST_BITS) (nomark _)))))
      (pss_one (ps_ret (pe_lst (pa_cons (pe_gi (by rfl) T.c_OUT_OF_RANGE) pa_nil))))
      pss_nil)
    (pss_cons (ps_expr (pe_mt M_begin hr (by decide) (pv 0) (pa_cons (pv 2) pa_nil)))
    (pss_one (ps_ret (pe_lst (pa_cons (pv 2) pa_nil))))))), ?_⟩
  unfold Cm05.step at q
  dsimp only at q
  refine ⟨_, rfl, nl, _, 0, _, rfl, rfl, hS, iv_atI (i := 0) rfl, ?_⟩
  refine ⟨_, rfl, _, _, rfl, rfl, _, rfl, ite2 (fun c => ?_) (fun c => ?_)⟩
  · have c : (n : Int) < 1 := of_decide_eq_true c
    rw [if_pos (by omega)] at q
    exact iteT ⟨by show 1 ≤ sizeLine; decide, fun p np => q.new t (.refl _) np⟩
  have c : ¬ (n : Int) < 1 := fun z => c (decide_eq_true z)
  refine ⟨_, rfl, _, _, rfl, rfl, _, rfl, ite2 (fun d => ?_) (fun d => ?_)⟩
  · have d : (32 : Int) < (n : Int) := of_decide_eq_true d
    rw [if_pos (by omega)] at q
    exact ⟨by show 1 ≤ sizeLine; decide, fun p np => q.new t (.refl _) np⟩
  have d : ¬ (32 : Int) < (n : Int) := fun z => d (decide_eq_true z)
  rw [if_neg (by omega)] at q
  obtain ⟨dx, hA⟩ := tbl_ins t
  refine ⟨_, rfl, a, dx, _, rfl, hA, fF_begin _ _, _, rfl, N, a, dx, _, _, n, rfl, hA, by omega, by omega, t.nn, fun H' l' k nl' t' => ?_⟩
  refine ⟨_, rfl, by show 1 ≤ sizeLine; decide, fun p np => ?_⟩
  have np0 : H p = none := by
    cases e : H p with
    | none => rfl
    | some o =>
      by_cases z : p = a
      · rw [z] at np
        obtain ⟨dx', h2⟩ := tbl_ins t'
        rw [h2] at np
        cases np
      · rw [k p o e z] at np
        cases np
  have s2 := same_upd (o := .lst (iv (zs [n]))) np
  exact q _ l' p (fun b o e nb _ => s2 _ _ (k b o e nb)) (.inr nl') (t'.same s2) np0 upd_same

theorem ok_turns (T : Txt K mg C) (D : Def K mg "turns" s_turns ["table", "numbers"]) (C_are_words : Cal P w K mg base 1 "are_words" (spAreWords K)) (C_turned : Cal P w K mg base 1 "turned" spTurned) (C_loop_turns : Cal P w K mg base 205 "loop_turns" (spLT 8)) :
    Cal P w K mg base 206 "turns" (spCall K C R1) := by
  refine D.cal sc_turns spCall_len (fun fa cdv A outer st H vs Q E hr h => ?_)
  obtain ⟨N, a, l, nl, m, ns, x, rfl, t, g, hS, ⟨r, u, s, b, rfl, rfl⟩, q⟩ := h
  refine ⟨_, (pss_cons (ps_set (i := 2) sc_turns.nd rfl (Or.inl rfl) (pe_ix ix_list (pv 1) pe_int (fun _ _ => rfl)))
    (pss_cons (ps_if (pt_cmpR op_gt (pv 2) (pe_gi (by rfl) T.c_LAST_RELATION) (nomark _))
      (pss_one (ps_ret (pe_lst (pa_cons (pe_gi (by rfl) T.c_NO_RELATION) pa_nil))))
      pss_nil)
    (pss_cons (ps_if (pt_not (pt_val (pe_c C_are_words hr (by decide) (by rfl) (pa_cons (pe_slice sl_list (pv 1) (po_some pe_int) po_none) (pa_cons (pe_fld (pv 0) rfl) pa_nil)))))
      (pss_one (ps_ret (pe_lst (pa_cons (pe_gi (by rfl) T.c_OUT_OF_RANGE) pa_nil))))
      pss_nil)
    (pss_cons (ps_set (i := 3) sc_turns.nd rfl (Or.inl rfl) (pe_ix ix_list (pv 1) pe_int (fun _ _ => rfl)))
    (pss_cons (ps_set (i := 4) sc_turns.nd rfl (Or.inl rfl) (pe_ix ix_list (pv 1) pe_int (fun _ _ => rfl)))
    (pss_one (ps_ret (pe_c C_turned hr (by decide) (by rfl) (pa_cons (pe_c C_loop_turns hr (by decide) (by rfl) (pa_cons (pv 2) (pa_cons (pv 3) (pa_cons (pv 4) (pa_cons (pe_ix ix_list (pv 1) pe_int (fun _ _ => rfl)) (pa_cons (pe_fld (pv 0) rfl) pa_nil)))))) (pa_cons (pv 3) (pa_cons (pv 4) (pa_cons (pe_fld (pv 0) rfl) pa_nil)))))))))))), ?_⟩
  unfold Cm05.step at q
  dsimp only at q
  obtain ⟨dx, hA⟩ := tbl_ins t
  refine ⟨_, rfl, nl, _, 0, _, rfl, rfl, hS, iv_atI (i := 0) rfl, ?_⟩
  refine ⟨_, rfl, _, _, rfl, rfl, _, rfl, ite2 (fun c => ?_) (fun c => ?_)⟩
  · have c : (8 : Int) < (r : Int) := of_decide_eq_true c
    rw [if_pos (by omega)] at q
    exact ⟨by show 1 ≤ sizeLine; decide, fun p np => q.new t (.refl _) np⟩
  have c : ¬ (8 : Int) < (r : Int) := fun z => c (decide_eq_true z)
  rw [if_neg (by omega)] at q
  refine ⟨_, rfl, _, rfl, nl, _, rfl, hS, fun p np => ?_⟩
  have s1 := same_upd (o := .lst (cutV (iv (zs [r, u, s, b])) (some 1) none)) np
  refine ⟨_, rfl, a, C, dx, _, _, rfl, s1 _ _ hA, T.cf.cl, T.cf.nS, fF_size _ _, p, zs [u, s, b], _, rfl, SqL.of (upd_same.trans ?_), by show 3 ≤ 1000; decide, fun H2 s2 => ?_⟩
  · exact congrArg (fun z => some (HO.lst z)) (cut_from (zs [r, u, s, b]) 1)
  rw [all_words]
  have s3 := s1.trans s2
  refine ⟨_, rfl, ?_⟩
  cases hw : Cm05.words m [u, s, b] with
  | false =>
    rw [hw, if_pos rfl] at q
    exact iteT ⟨by show 1 ≤ sizeLine; decide, fun p np => q.new t s3 np⟩
  | true =>
    rw [hw, if_neg (by decide)] at q
    refine iteF ?_
    have hb := words_mem hw
    have hu := hb u (by simp)
    have hs := hb s (by simp)
    have hb := hb b (by simp)
    have hM := pow32 g.n2
    refine ⟨_, rfl, nl, _, 1, _, rfl, rfl, s3.seq hS, iv_atI (i := 1) rfl, ?_⟩
    refine ⟨_, rfl, nl, _, 2, _, rfl, rfl, s3.seq hS, iv_atI (i := 2) rfl, ?_⟩
    refine ⟨_, rfl, _, rfl, _, rfl, _, rfl, nl, _, 3, _, rfl, rfl, s3.seq hS, iv_atI (i := 3) rfl, _, rfl, a, C, dx, _, _, rfl, s3 _ _ hA, T.cf.cl, T.cf.nS, fF_size _ _, ?_⟩
    refine ⟨m.n, r, u, s, b, rfl, g.n1, g.n2, by omega, by omega, hu, hs, hb, fun H4 s4 => ?_⟩
    refine ⟨_, rfl, _, rfl, _, rfl, a, C, dx, _, _, rfl, (s3.trans s4) _ _ hA, T.cf.cl, T.cf.nS, fF_size _ _, ?_⟩
    refine ⟨Cm05.turns m.n r u s b, u, s, 2 ^ m.n, rfl, by omega, Nat.two_pow_pos _, fun p np => ?_⟩
    cases ho : Cm05.turns m.n r u s b with
    | none =>
      rw [ho] at q
      exact q.new t (s3.trans s4) np
    | some k =>
      rw [ho] at q
      exact q.new t (s3.trans s4) np

theorem ok_lands (T : Txt K mg C) (D : Def K mg "lands" s_lands ["table", "numbers"]) (C_are_words : Cal P w K mg base 1 "are_words" (spAreWords K)) (C_turned : Cal P w K mg base 1 "turned" spTurned) (C_first_landing : Cal P w K mg base 203 "first_landing" spFL) :
    Cal P w K mg base 206 "lands" (spCall K C R2') := by
  refine D.cal sc_lands spCall_len (fun fa cdv A outer st H vs Q E hr h => ?_)
  obtain ⟨N, a, l, nl, m, ns, x, rfl, t, g, hS, ⟨u, s, lo, hi, rfl, rfl⟩, q⟩ := h
  refine ⟨_, (pss_cons (ps_set (i := 2) sc_lands.nd rfl (Or.inl rfl) (pe_ix ix_list (pv 1) pe_int (fun _ _ => rfl)))
    (pss_cons (ps_set (i := 3) sc_lands.nd rfl (Or.inl rfl) (pe_ix ix_list (pv 1) pe_int (fun _ _ => rfl)))
    (pss_cons (ps_set (i := 4) sc_lands.nd rfl (Or.inl rfl) (pe_ix ix_list (pv 1) pe_int (fun _ _ => rfl)))
    (pss_cons (ps_set (i := 5) sc_lands.nd rfl (Or.inl rfl) (pe_ix ix_list (pv 1) pe_int (fun _ _ => rfl)))
    (pss_cons (ps_if (PW.pt (pw_or (pt_not (pt_val (pe_c C_are_words hr (by decide) (by rfl) (pa_cons (pv 1) (pa_cons (pe_fld (pv 0) rfl) pa_nil))))) (pw_or1 (pt_cmpR op_lt (pv 5) (pv 4) (nomark _)))))
      (pss_one (ps_ret (pe_lst (pa_cons (pe_gi (by rfl) T.c_OUT_OF_RANGE) pa_nil))))
      pss_nil)
    (pss_one (ps_ret (pe_c C_turned hr (by decide) (by rfl) (pa_cons (pe_c C_first_landing hr (by decide) (by rfl) (pa_cons (pv 2) (pa_cons (pv 3) (pa_cons (pv 4) (pa_cons (pv 5) (pa_cons (pe_fld (pv 0) rfl) pa_nil)))))) (pa_cons (pv 2) (pa_cons (pv 3) (pa_cons (pe_fld (pv 0) rfl) pa_nil)))))))))))), ?_⟩
  unfold Cm05.step at q
  dsimp only at q
  obtain ⟨dx, hA⟩ := tbl_ins t
  refine ⟨_, rfl, nl, _, 0, _, rfl, rfl, hS, iv_atI (i := 0) rfl, ?_⟩
  refine ⟨_, rfl, nl, _, 1, _, rfl, rfl, hS, iv_atI (i := 1) rfl, ?_⟩
  refine ⟨_, rfl, nl, _, 2, _, rfl, rfl, hS, iv_atI (i := 2) rfl, ?_⟩
  refine ⟨_, rfl, nl, _, 3, _, rfl, rfl, hS, iv_atI (i := 3) rfl, ?_⟩
  refine ⟨_, rfl, _, rfl, a, C, dx, _, _, rfl, hA, T.cf.cl, T.cf.nS, fF_size _ _, nl, zs [u, s, lo, hi], _, rfl, hS, by show 4 ≤ 1000; decide, fun H2 s3 => ?_⟩
  rw [all_words]
  refine ⟨_, rfl, ?_⟩
  cases hw : Cm05.words m [u, s, lo, hi] with
  | false =>
    rw [hw, if_pos (.inl rfl)] at q
    exact iteT (iteT ⟨by show 1 ≤ sizeLine; decide, fun p np => q.new t s3 np⟩)
  | true =>
    rw [hw] at q
    refine iteF ?_
    refine ⟨_, rfl, _, rfl, _, _, rfl, rfl, _, rfl, ite2 (fun c => ?_) (fun c => ?_)⟩
    · have c : (hi : Int) < (lo : Int) := of_decide_eq_true c
      rw [if_pos (.inr (by omega))] at q
      exact ⟨by show 1 ≤ sizeLine; decide, fun p np => q.new t s3 np⟩
    · have c : ¬ (hi : Int) < (lo : Int) := fun z => c (decide_eq_true z)
      rw [if_neg (by intro z; rcases z with z | z; cases z; omega)] at q
      have hb := words_mem hw
      have hu := hb u (by simp)
      have hs := hb s (by simp)
      have hhi := hb hi (by simp)
      have hM := pow32 g.n2
      refine ⟨_, rfl, _, rfl, _, rfl, _, rfl, _, rfl, a, C, dx, _, _, rfl, s3 _ _ hA, T.cf.cl, T.cf.nS, fF_size _ _, ?_⟩
      refine ⟨2 ^ m.n, u, s, lo, hi, rfl, hu, hs, by omega, hhi, hM, ?_⟩
      refine ⟨_, rfl, _, rfl, _, rfl, a, C, dx, _, _, rfl, s3 _ _ hA, T.cf.cl, T.cf.nS, fF_size _ _, ?_⟩
      refine ⟨Cm05.lands (2 ^ m.n) u s lo hi, u, s, 2 ^ m.n, rfl, by omega, Nat.two_pow_pos _, fun p np => ?_⟩
      cases ho : Cm05.lands (2 ^ m.n) u s lo hi with
      | none =>
        rw [show Cm05.lands (Cm05.M m) u s lo hi = none from ho] at q
        exact q.new t s3 np
      | some k =>
        rw [show Cm05.lands (Cm05.M m) u s lo hi = some k from ho] at q
        exact q.new t s3 np
end
end Wt
/-! chains.py: the defs of the calls, second part -/
namespace Wt
open PySem PySem.Spec PyProof.Rows L2
open Cm05 (normal)

theorem put_ok {m : Cm05.St} {z : Nat} {r : List Nat} {c : List Nat} (h : (z :: r).all Cm05.isChain = true) : Cm05.put m (z :: r) c = putAt m z c := by
  unfold Cm05.put putAt
  dsimp only
  rw [h, if_neg (by decide)]
  rfl
theorem put_no {m : Cm05.St} {z : Nat} {r : List Nat} {c : List Nat} (h : (z :: r).all Cm05.isChain = false) : Cm05.put m (z :: r) c = (m, [-2]) := by
  unfold Cm05.put
  dsimp only
  rw [h, if_pos rfl]
theorem mix_plus {M x y : Nat} (hM : 0 < M) : mix 1 M x y = (x + y) % M := by
  unfold mix
  rw [Int.one_mul, ← Int.natCast_add, ← Int.natCast_emod, Int.toNat_natCast]
theorem mix_less {M x y : Nat} (hM : 0 < M) : mix (-1) M x y = (x + (M - y % M)) % M := by
  unfold mix
  have l := Nat.mod_lt y hM
  have e : ((x : Int) + -1 * (y : Int)) % (M : Int) = (((x + (M - y % M)) % M : Nat) : Int) := by
    rw [Int.natCast_emod, Int.emod_eq_emod_iff_emod_sub_eq_zero]
    have d := Int.mul_ediv_add_emod (y : Int) (M : Int)
    have e2 : (x : Int) + -1 * (y : Int) - ((x + (M - y % M) : Nat) : Int) = (M : Int) * (-((y : Int) / (M : Int)) - 1) := by
      rw [Int.natCast_add, Int.ofNat_sub (by omega), Int.natCast_emod, Int.mul_sub, Int.mul_neg]
      omega
    rw [e2, Int.mul_emod_right]
  rw [e, Int.toNat_natCast]
theorem mixed_plus {M : Nat} (hM : 0 < M) (a b : List Nat) : normal (mixed 1 M a b) = Cm05.plus M a b := by
  unfold mixed Cm05.plus
  congr 1
  refine List.map_congr_left fun i _ => mix_plus hM
theorem mixed_less {M : Nat} (hM : 0 < M) (a b : List Nat) : normal (mixed (-1) M a b) = Cm05.less M a b := by
  unfold mixed Cm05.less
  congr 1
  refine List.map_congr_left fun i _ => mix_less hM
theorem mixed_ne {sg : Int} {M : Nat} {a b : List Nat} (h : a ≠ []) : mixed sg M a b ≠ [] := by
  intro e
  have := congrArg List.length e
  unfold mixed at this
  rw [List.length_map, List.length_range, List.length_nil] at this
  have := List.length_pos_iff.mpr h
  omega

def spTog (K : PySem.W.Frag) (C : Addr) : Sp := fun vs H Q _ => ∃ (N : Addr → Prop) (a l nl : Addr) (m : Cm05.St) (p q r : Nat) (sg : Int), vs = [.ref a, .ref nl, .int sg] ∧ TblAt C N H a l m ∧ Good m ∧ SqL K H nl (iv (zs [p, q, r])) ∧ (sg = 1 ∨ sg = -1) ∧
  Res C N H a l (Cm05.put m [p, q, r] (normal (mixed sg (Cm05.M m) (Cm05.chainAt m q) (Cm05.chainAt m r)))) Q
abbrev s_put_together : Stmt := topS 55
theorem sc_put_together : FnScope ["table", "numbers", "sign", "first", "second"] ["table", "numbers", "sign"] (defScope s_put_together) := ⟨rfl, rfl, rfl, by decide +kernel, rfl, by decide +kernel, by decide +kernel⟩
abbrev s_plus : Stmt := topS 53
theorem sc_plus : FnScope ["table", "numbers"] ["table", "numbers"] (defScope s_plus) := ⟨rfl, rfl, rfl, by decide +kernel, rfl, by decide +kernel, by decide +kernel⟩
abbrev s_less : Stmt := topS 54
theorem sc_less : FnScope ["table", "numbers"] ["table", "numbers"] (defScope s_less) := ⟨rfl, rfl, rfl, by decide +kernel, rfl, by decide +kernel, by decide +kernel⟩

theorem all_one {p : Nat} : [p].all Cm05.isChain = Cm05.isChain p := by
  rw [List.all_cons, List.all_nil, Bool.and_true]
theorem all3 {p q r : Nat} (h : [p, q, r].all Cm05.isChain = true) : p < 8 ∧ q < 8 ∧ r < 8 := by
  rw [List.all_eq_true] at h
  exact ⟨isChain_iff.mp (h p (by simp)), isChain_iff.mp (h q (by simp)), isChain_iff.mp (h r (by simp))⟩
theorem Good.words32 {m : Cm05.St} (g : Good m) {x : Nat} (h : x < 8) : Words32 (Cm05.chainAt m x) := fun y hy => Nat.lt_of_lt_of_le ((g.chain h).2.2.2 y hy) (pow32 g.n2)

theorem Res.back {C : Addr} {N : Addr → Prop} {H H1 : Hp} {a l : Addr} {r : Cm05.St × List Int} {Q : VK} (q : Res C N H a l r Q) (s : Same H H1) : Res C N H1 a l r Q := by
  intro H' l' p k hl' t' np hp
  refine q H' l' p (fun b o e nb nl => k b o (s _ _ e) nb nl) ?_ t' (s.free np) hp
  rcases hl' with h | h
  · exact .inl h
  · exact .inr (s.free h)
section
variable {P : Program} {w : World} {K : PySem.W.Frag} {mg : Str → Option Value} {base : Heap} {C : Addr}
theorem ok_chain (T : Txt K mg C) (D : Def K mg "chain" s_chain ["table", "numbers"]) (C_are_words : Cal P w K mg base 1 "are_words" (spAreWords K)) (C_are_chains : Cal P w K mg base 1 "are_chains" (spAreChains K)) (C_stored : Cal P w K mg base 3 "stored" (spStored K C)) :
    Cal P w K mg base 4 "chain" (spCall K C R3) := by
  refine D.cal sc_chain spCall_len (fun fa cdv A outer st H vs Q E hr h => ?_)
  obtain ⟨N, a, l, nl, m, ns, x, rfl, t, g, hS, ⟨p, ws, rfl, h12, rfl⟩, q⟩ := h
  refine ⟨_, (pss_cons (ps_set (i := 2) sc_chain.nd rfl (Or.inl rfl) (pe_ix ix_list (pv 1) pe_int (fun _ _ => rfl)))
    (pss_cons (ps_set (i := 3) sc_chain.nd rfl (Or.inl rfl) (pe_slice sl_list (pv 1) (po_some pe_int) po_none))
    (pss_cons (ps_if (pt_not (pt_val (pe_c C_are_chains hr (by decide) (by rfl) (pa_cons (pe_lst (pa_cons (pv 2) pa_nil)) pa_nil))))
      (pss_one (ps_ret (pe_lst (pa_cons (pe_gi (by rfl) T.c_NO_CHAIN) pa_nil))))
      pss_nil)
    (pss_cons (ps_if (PW.pt (pw_or (pt_cmpR op_lt (pe_callB call_len_seq (by rfl) T.b_len (by decide +kernel) (pa_cons (pv 3) pa_nil)) pe_int (nomark _)) (pw_or (pt_cmpR op_gt (pe_callB call_len_seq (by rfl) T.b_len (by decide +kernel) (pa_cons (pv 3) pa_nil)) (pe_gi (by rfl) T.c_LONGEST) (nomark _)) (pw_or1 (pt_not (pt_val (pe_c C_are_words hr (by decide) (by rfl) (pa_cons (pv 3) (pa_cons (pe_fld (pv 0) rfl) pa_nil)))))))))
      (pss_one (ps_ret (pe_lst (pa_cons (pe_gi (by rfl) T.c_OUT_OF_RANGE) pa_nil))))
      pss_nil)
    (pss_one (ps_ret (pe_c C_stored hr (by decide) (by rfl) (pa_cons (pv 0) (pa_cons (pv 2) (pa_cons (pv 3) pa_nil)))))))))), ?_⟩
  unfold Cm05.step at q
  dsimp only at q
  obtain ⟨dx, hA⟩ := tbl_ins t
  refine ⟨_, rfl, nl, _, 0, _, rfl, rfl, hS, iv_atI (i := 0) rfl, ?_⟩
  refine ⟨_, rfl, _, rfl, nl, _, rfl, hS, fun wl nwl => ?_⟩
  have ecut : cutV (iv (zs (p :: ws.length :: ws))) (some 2) none = iv (zs ws) := cut_from (zs (p :: ws.length :: ws)) 2
  rw [ecut]
  have s1 := same_upd (o := .lst (iv (zs ws))) nwl
  have hW : (upd H wl (.lst (iv (zs ws)))) wl = some (.lst (iv (zs ws))) := upd_same
  generalize upd H wl (.lst (iv (zs ws))) = H1 at s1 hW
  have t1 := t.same s1
  refine ⟨_, rfl, (by show 1 ≤ sizeLine; decide), fun cl ncl => ?_⟩
  have s2 := same_upd (o := .lst (iv (zs [p]))) ncl
  refine ⟨cl, zs [p], rfl, SqL.of upd_same, by show 1 ≤ 1000; decide, fun H3 s3 => ?_⟩
  rw [all_chains, all_one]
  have s4 := s2.trans s3
  refine ⟨_, rfl, ?_⟩
  cases hp : Cm05.isChain p with
  | false =>
    rw [hp, if_pos rfl] at q
    exact iteT ⟨by show 1 ≤ sizeLine; decide, fun p np => q.new t (s1.trans s4) np⟩
  | true =>
    rw [hp, if_neg (by decide)] at q
    refine iteF ?_
    have hW3 := s4 _ _ hW
    have el : ((iv (zs ws)).length : Int) = (ws.length : Int) := by rw [List.length_map, List.length_map]
    refine ⟨_, rfl, wl, _, rfl, .inl (SqL.of hW3), _, _, rfl, rfl, _, rfl, ite2 (fun c => ?_) (fun c => ?_)⟩
    · have c : ((iv (zs ws)).length : Int) < 1 := of_decide_eq_true c
      rw [if_pos (.inl (by omega))] at q
      exact iteT ⟨by show 1 ≤ sizeLine; decide, fun p np => q.new t (s1.trans s4) np⟩
    have c : ¬ ((iv (zs ws)).length : Int) < 1 := fun z => c (decide_eq_true z)
    refine ⟨_, rfl, wl, _, rfl, .inl (SqL.of hW3), _, _, rfl, rfl, _, rfl, ite2 (fun d => ?_) (fun d => ?_)⟩
    · have d : (8 : Int) < ((iv (zs ws)).length : Int) := of_decide_eq_true d
      rw [if_pos (.inr (.inl (by omega)))] at q
      exact iteT ⟨by show 1 ≤ sizeLine; decide, fun p np => q.new t (s1.trans s4) np⟩
    have d : ¬ (8 : Int) < ((iv (zs ws)).length : Int) := fun z => d (decide_eq_true z)
    refine ⟨_, rfl, _, rfl, a, C, dx, _, _, rfl, (s1.trans s4) _ _ hA, T.cf.cl, T.cf.nS, fF_size _ _, wl, zs ws, _, rfl, SqL.of hW3, by rw [List.length_map]; omega, fun H5 s5 => ?_⟩
    rw [all_words]
    refine ⟨_, rfl, ?_⟩
    cases hw : Cm05.words m ws with
    | false =>
      rw [hw, if_pos (.inr (.inr rfl))] at q
      exact iteT ⟨by show 1 ≤ sizeLine; decide, fun p np => q.new t ((s1.trans s4).trans s5) np⟩
    | true =>
      rw [hw, if_neg (by intro z; rcases z with z | z | z; omega; omega; cases z), put_ok (by rw [all_one]; exact hp)] at q
      refine iteF ?_
      have sA := (s1.trans s4).trans s5
      refine ⟨_, rfl, _, rfl, _, rfl, N, a, l, wl, m, p, ws, rfl, t.same sA, by rw [g.len]; exact isChain_iff.mp hp, SqL.of (s5 _ _ hW3), fun z => by rw [z] at c; exact c (by decide), q.back sA⟩
theorem ok_shows (T : Txt K mg C) (D : Def K mg "shows" s_shows ["table", "numbers"]) (C_are_chains : Cal P w K mg base 1 "are_chains" (spAreChains K)) (C_shown : Cal P w K mg base 2 "shown" (spShown C)) : Cal P w K mg base 4 "shows" (spCall K C R4) := by
  refine D.cal sc_shows spCall_len (fun fa cdv A outer st H vs Q E hr h => ?_)
  obtain ⟨N, a, l, nl, m, ns, x, rfl, t, g, hS, ⟨p, rfl, rfl⟩, q⟩ := h
  refine ⟨_, (pss_cons (ps_if (pt_not (pt_val (pe_c C_are_chains hr (by decide) (by rfl) (pa_cons (pv 1) pa_nil))))
      (pss_one (ps_ret (pe_lst (pa_cons (pe_gi (by rfl) T.c_NO_CHAIN) pa_nil))))
      pss_nil)
    (pss_one (ps_ret (pe_c C_shown hr (by decide) (by rfl) (pa_cons (pv 0) (pa_cons (pe_ix ix_list (pv 1) pe_int (fun _ _ => rfl)) pa_nil)))))), ?_⟩
  unfold Cm05.step at q
  dsimp only at q
  refine ⟨_, rfl, nl, zs [p], rfl, hS, by show 1 ≤ 1000; decide, fun H1 s1 => ?_⟩
  rw [all_chains, all_one]
  refine ⟨_, rfl, ?_⟩
  cases hp : Cm05.isChain p with
  | false =>
    rw [hp, if_pos rfl] at q
    exact iteT ⟨by show 1 ≤ sizeLine; decide, fun p np => q.new t s1 np⟩
  | true =>
    rw [hp, if_neg (by decide)] at q
    refine iteF ?_
    have hp := isChain_iff.mp hp
    refine ⟨_, rfl, _, rfl, nl, _, 0, _, rfl, rfl, s1.seq hS, iv_atI (i := 0) rfl, N, a, l, m, p, rfl, t.same s1, by rw [g.len]; exact hp, by have := (g.chain hp).2.1; omega, fun H' r s2 nr hr' => ?_⟩
    exact q.plain t (s1.trans s2) (s1.free nr) hr'
theorem ok_at (T : Txt K mg C) (D : Def K mg "at" s_at ["table", "numbers"]) (C_are_chains : Cal P w K mg base 1 "are_chains" (spAreChains K)) (M_words_of : Met P w K mg base 1 C "words_of" (spWordsOf C)) (C_word_after : Cal P w K mg base 1 "word_after" (spWA K)) : Cal P w K mg base 4 "at" (spCall K C R5) := by
  refine D.cal sc_at spCall_len (fun fa cdv A outer st H vs Q E hr h => ?_)
  obtain ⟨N, a, l, nl, m, ns, x, rfl, t, g, hS, ⟨p, k, rfl, hk, rfl⟩, q⟩ := h
  refine ⟨_, (pss_cons (ps_if (pt_not (pt_val (pe_c C_are_chains hr (by decide) (by rfl) (pa_cons (pe_slice sl_list (pv 1) po_none (po_some pe_int)) pa_nil))))
      (pss_one (ps_ret (pe_lst (pa_cons (pe_gi (by rfl) T.c_NO_CHAIN) pa_nil))))
      pss_nil)
    (pss_one (ps_ret (pe_lst (pa_cons (pe_c C_word_after hr (by decide) (by rfl) (pa_cons (pe_mt M_words_of hr (by decide) (pv 0) (pa_cons (pe_ix ix_list (pv 1) pe_int (fun _ _ => rfl)) pa_nil)) (pa_cons (pe_ix ix_list (pv 1) pe_int (fun _ _ => rfl)) (pa_cons (pe_fld (pv 0) rfl) pa_nil)))) pa_nil))))), ?_⟩
  unfold Cm05.step at q
  dsimp only at q
  obtain ⟨dx, hA⟩ := tbl_ins t
  refine ⟨_, rfl, _, rfl, nl, _, rfl, hS, fun cl ncl => ?_⟩
  rw [show cutV (iv (zs [p, k])) none (some 1) = iv (zs [p]) from cut_to (zs [p, k]) 1]
  have s1 := same_upd (o := .lst (iv (zs [p]))) ncl
  refine ⟨cl, zs [p], rfl, SqL.of upd_same, by show 1 ≤ 1000; decide, fun H1 s2 => ?_⟩
  replace s1 := s1.trans s2
  rw [all_chains, all_one]
  refine ⟨_, rfl, ?_⟩
  cases hp : Cm05.isChain p with
  | false =>
    rw [hp, if_pos rfl] at q
    exact iteT ⟨by show 1 ≤ sizeLine; decide, fun p np => q.new t s1 np⟩
  | true =>
    rw [hp, if_neg (by decide)] at q
    refine iteF ?_
    have hp := isChain_iff.mp hp
    refine ⟨_, rfl, a, dx, _, rfl, s1 _ _ hA, fF_words _ _, _, rfl, nl, _, 0, _, rfl, rfl, s1.seq hS, iv_atI (i := 0) rfl, N, a, l, m, p, rfl, t.same s1, by rw [g.len]; exact hp, fun wl nwl => ?_⟩
    have s3 := s1.trans (same_upd (o := .lst (iv (zs (Cm05.chainAt m p)))) nwl)
    have hc := g.chain hp
    refine ⟨_, rfl, nl, _, 1, _, rfl, rfl, s3.seq hS, iv_atI (i := 1) rfl, _, rfl, a, C, dx, _, _, rfl, s3 _ _ hA, T.cf.cl, T.cf.nS, fF_size _ _, ?_⟩
    refine ⟨wl, Cm05.chainAt m p, k, 2 ^ m.n, rfl, SqL.of upd_same, Nat.two_pow_pos _, by omega, by omega, g.words32 hp, fun H' s4 => ?_⟩
    exact ⟨by show 1 ≤ sizeLine; decide, fun p np => q.new t (s3.trans s4) np⟩
theorem ok_sum_of (T : Txt K mg C) (D : Def K mg "sum_of" s_sum_of ["table", "numbers"]) (C_are_chains : Cal P w K mg base 1 "are_chains" (spAreChains K)) (M_words_of : Met P w K mg base 1 C "words_of" (spWordsOf C)) (C_sum_before : Cal P w K mg base 2 "sum_before" (spSB K)) : Cal P w K mg base 4 "sum_of" (spCall K C R6) := by
  refine D.cal sc_sum_of spCall_len (fun fa cdv A outer st H vs Q E hr h => ?_)
  obtain ⟨N, a, l, nl, m, ns, x, rfl, t, g, hS, ⟨p, k, rfl, hk, rfl⟩, q⟩ := h
  refine ⟨_, (pss_cons (ps_if (pt_not (pt_val (pe_c C_are_chains hr (by decide) (by rfl) (pa_cons (pe_slice sl_list (pv 1) po_none (po_some pe_int)) pa_nil))))
      (pss_one (ps_ret (pe_lst (pa_cons (pe_gi (by rfl) T.c_NO_CHAIN) pa_nil))))
      pss_nil)
    (pss_one (ps_ret (pe_lst (pa_cons (pe_c C_sum_before hr (by decide) (by rfl) (pa_cons (pe_mt M_words_of hr (by decide) (pv 0) (pa_cons (pe_ix ix_list (pv 1) pe_int (fun _ _ => rfl)) pa_nil)) (pa_cons (pe_ix ix_list (pv 1) pe_int (fun _ _ => rfl)) (pa_cons (pe_fld (pv 0) rfl) pa_nil)))) pa_nil))))), ?_⟩
  unfold Cm05.step at q
  dsimp only at q
  obtain ⟨dx, hA⟩ := tbl_ins t
  refine ⟨_, rfl, _, rfl, nl, _, rfl, hS, fun cl ncl => ?_⟩
  rw [show cutV (iv (zs [p, k])) none (some 1) = iv (zs [p]) from cut_to (zs [p, k]) 1]
  have s1 := same_upd (o := .lst (iv (zs [p]))) ncl
  refine ⟨cl, zs [p], rfl, SqL.of upd_same, by show 1 ≤ 1000; decide, fun H1 s2 => ?_⟩
  replace s1 := s1.trans s2
  rw [all_chains, all_one]
  refine ⟨_, rfl, ?_⟩
  cases hp : Cm05.isChain p with
  | false =>
    rw [hp, if_pos rfl] at q
    exact iteT ⟨by show 1 ≤ sizeLine; decide, fun p np => q.new t s1 np⟩
  | true =>
    rw [hp, if_neg (by decide)] at q
    refine iteF ?_
    have hp := isChain_iff.mp hp
    refine ⟨_, rfl, a, dx, _, rfl, s1 _ _ hA, fF_words _ _, _, rfl, nl, _, 0, _, rfl, rfl, s1.seq hS, iv_atI (i := 0) rfl, N, a, l, m, p, rfl, t.same s1, by rw [g.len]; exact hp, fun wl nwl => ?_⟩
    have s3 := s1.trans (same_upd (o := .lst (iv (zs (Cm05.chainAt m p)))) nwl)
    have hc := g.chain hp
    refine ⟨_, rfl, nl, _, 1, _, rfl, rfl, s3.seq hS, iv_atI (i := 1) rfl, _, rfl, a, C, dx, _, _, rfl, s3 _ _ hA, T.cf.cl, T.cf.nS, fF_size _ _, ?_⟩
    refine ⟨wl, Cm05.chainAt m p, k, 2 ^ m.n, rfl, upd_same, Nat.two_pow_pos _, by omega, by omega, g.words32 hp, fun H' s4 => ?_⟩
    exact ⟨by show 1 ≤ sizeLine; decide, fun p np => q.new t (s3.trans s4) np⟩
theorem ok_put_together (T : Txt K mg C) (D : Def K mg "put_together" s_put_together ["table", "numbers", "sign"]) (C_are_chains : Cal P w K mg base 1 "are_chains" (spAreChains K)) (M_words_of : Met P w K mg base 1 C "words_of" (spWordsOf C)) (C_combined : Cal P w K mg base 2 "combined" spComb)
    (C_stored : Cal P w K mg base 3 "stored" (spStored K C)) : Cal P w K mg base 4 "put_together" (spTog K C) := by
  refine D.cal sc_put_together (fun vs H Q E h => ?_) (fun fa cdv A outer st H vs Q E hr h => ?_)
  · obtain ⟨N, a, l, nl, m, p, q, r, sg, rfl, _⟩ := h
    rfl
  obtain ⟨N, a, l, nl, m, z, x, y, sg, rfl, t, g, hS, hsg, q⟩ := h
  refine ⟨_, (pss_cons (ps_if (pt_not (pt_val (pe_c C_are_chains hr (by decide) (by rfl) (pa_cons (pv 1) pa_nil))))
      (pss_one (ps_ret (pe_lst (pa_cons (pe_gi (by rfl) T.c_NO_CHAIN) pa_nil))))
      pss_nil)
    (pss_cons (ps_set (i := 3) sc_put_together.nd rfl (Or.inl rfl) (pe_mt M_words_of hr (by decide) (pv 0) (pa_cons (pe_ix ix_list (pv 1) pe_int (fun _ _ => rfl)) pa_nil)))
    (pss_cons (ps_set (i := 4) sc_put_together.nd rfl (Or.inl rfl) (pe_mt M_words_of hr (by decide) (pv 0) (pa_cons (pe_ix ix_list (pv 1) pe_int (fun _ _ => rfl)) pa_nil)))
    (pss_one (ps_ret (pe_c C_stored hr (by decide) (by rfl) (pa_cons (pv 0) (pa_cons (pe_ix ix_list (pv 1) pe_int (fun _ _ => rfl)) (pa_cons (pe_c C_combined hr (by decide) (by rfl) (pa_cons (pv 3) (pa_cons (pv 4) (pa_cons (pv 2) (pa_cons (pe_fld (pv 0) rfl) pa_nil))))) pa_nil))))))))), ?_⟩
  obtain ⟨dx, hA⟩ := tbl_ins t
  refine ⟨_, rfl, nl, zs [z, x, y], rfl, hS, by show 3 ≤ 1000; decide, fun H1 s1 => ?_⟩
  rw [all_chains]
  refine ⟨_, rfl, ?_⟩
  cases hp : [z, x, y].all Cm05.isChain with
  | false =>
    rw [put_no hp] at q
    exact iteT ⟨by show 1 ≤ sizeLine; decide, fun p np => q.new t s1 np⟩
  | true =>
    rw [put_ok hp] at q
    refine iteF ?_
    obtain ⟨hz, hx, hy⟩ := all3 hp
    have hcx := g.chain hx
    have hcy := g.chain hy
    refine ⟨_, rfl, a, dx, _, rfl, s1 _ _ hA, fF_words _ _, _, rfl, nl, _, 1, _, rfl, rfl, s1.seq hS, iv_atI (i := 1) rfl, N, a, l, m, x, rfl, t.same s1, by rw [g.len]; exact hx, fun w1 nw1 => ?_⟩
    have s2 := s1.trans (same_upd (o := .lst (iv (zs (Cm05.chainAt m x)))) nw1)
    have h1 : (upd H1 w1 (.lst (iv (zs (Cm05.chainAt m x))))) w1 = some (.lst (iv (zs (Cm05.chainAt m x)))) := upd_same
    generalize upd H1 w1 (.lst (iv (zs (Cm05.chainAt m x)))) = H2 at s2 h1
    refine ⟨_, rfl, a, dx, _, rfl, s2 _ _ hA, fF_words _ _, _, rfl, nl, _, 2, _, rfl, rfl, s2.seq hS, iv_atI (i := 2) rfl, N, a, l, m, y, rfl, t.same s2, by rw [g.len]; exact hy, fun w2 nw2 => ?_⟩
    have s3' := same_upd (o := .lst (iv (zs (Cm05.chainAt m y)))) nw2
    have h2 : (upd H2 w2 (.lst (iv (zs (Cm05.chainAt m y))))) w2 = some (.lst (iv (zs (Cm05.chainAt m y)))) := upd_same
    generalize upd H2 w2 (.lst (iv (zs (Cm05.chainAt m y)))) = H3 at s3' h2
    have s3 := s2.trans s3'
    refine ⟨_, rfl, _, rfl, nl, _, 0, _, rfl, rfl, s3.seq hS, iv_atI (i := 0) rfl, _, rfl, _, rfl, _, rfl, _, rfl, a, C, dx, _, _, rfl, s3 _ _ hA, T.cf.cl, T.cf.nS, fF_size _ _, ?_⟩
    refine ⟨w1, w2, Cm05.chainAt m x, Cm05.chainAt m y, sg, 2 ^ m.n, rfl, s3' _ _ h1, h2, by omega, by omega, hsg, Nat.two_pow_pos _, pow32 g.n2, fun H4 w3 s4 nw3 h3 => ?_⟩
    exact ⟨N, a, l, w3, m, z, _, rfl, t.same (s3.trans s4), by rw [g.len]; exact hz, SqL.of h3, mixed_ne hcx.1, q.back (s3.trans s4)⟩
theorem ok_plus (D : Def K mg "plus" s_plus ["table", "numbers"]) (C_put_together : Cal P w K mg base 4 "put_together" (spTog K C)) : Cal P w K mg base 5 "plus" (spCall K C R7) := by
  refine D.cal sc_plus spCall_len (fun fa cdv A outer st H vs Q E hr h => ?_)
  obtain ⟨N, a, l, nl, m, ns, x, rfl, t, g, hS, ⟨z, x, y, rfl, rfl⟩, q⟩ := h
  refine ⟨_, (pss_one (ps_ret (pe_c C_put_together hr (by decide) (by rfl) (pa_cons (pv 0) (pa_cons (pv 1) (pa_cons pe_int pa_nil)))))), ?_⟩
  unfold Cm05.step at q
  dsimp only at q
  refine ⟨_, rfl, _, rfl, N, a, l, nl, m, z, x, y, 1, rfl, t, g, hS, .inl rfl, ?_⟩
  rw [mixed_plus (M := Cm05.M m) (Nat.two_pow_pos _)]
  exact q
theorem ok_less (D : Def K mg "less" s_less ["table", "numbers"]) (C_put_together : Cal P w K mg base 4 "put_together" (spTog K C)) : Cal P w K mg base 5 "less" (spCall K C R8) := by
  refine D.cal sc_less spCall_len (fun fa cdv A outer st H vs Q E hr h => ?_)
  obtain ⟨N, a, l, nl, m, ns, x, rfl, t, g, hS, ⟨z, x, y, rfl, rfl⟩, q⟩ := h
  refine ⟨_, (pss_one (ps_ret (pe_c C_put_together hr (by decide) (by rfl) (pa_cons (pv 0) (pa_cons (pv 1) (pa_cons (pe_un un_neg pe_int) pa_nil)))))), ?_⟩
  unfold Cm05.step at q
  dsimp only at q
  refine ⟨_, rfl, _, rfl, _, rfl, N, a, l, nl, m, z, x, y, -1, rfl, t, g, hS, .inr rfl, ?_⟩
  rw [mixed_less (M := Cm05.M m) (Nat.two_pow_pos _)]
  exact q
end
end Wt
/-! turning.py, second part -/
namespace Wt
open PySem PySem.Spec PyProof.Rows L2
open Cm05 (normal choose total)

def spCBW : Sp := fun vs H Q _ => ∃ (a : Addr) (c : List Nat) (M : Nat), vs = [.ref a, .int M] ∧ H a = some (.lst (iv (zs c))) ∧ c.length ≤ 100 ∧ 0 < M ∧
  ∀ H' p, Same H H' → H p = none → H' p = some (.lst (iv (zs (byWords M c)))) → Q (.ref p) H'
def spProd : Sp := fun vs H Q _ => ∃ (a b : Addr) (c d : List Nat) (M : Nat), vs = [.ref a, .ref b, .int M] ∧ H a = some (.lst (iv (zs c))) ∧ H b = some (.lst (iv (zs d))) ∧ c ≠ [] ∧ c.length ≤ 8 ∧ d.length ≤ 8 ∧ Words32 c ∧ Words32 d ∧ 0 < M ∧ M ≤ 2 ^ 32 ∧
  ∀ H' p, Same H H' → H p = none → H' p = some (.lst (iv (zs (byWords M (prods M c d))))) → Q (.ref p) H'
def spMv : Sp := fun vs H Q _ => ∃ (a : Addr) (c : List Nat) (k M : Nat), vs = [.ref a, .int k, .int M] ∧ H a = some (.lst (iv (zs c))) ∧ 0 < M ∧ k < 2 ^ 40 ∧ c.length ≤ 8 ∧ Words32 c ∧
  ∀ H' p, Same H H' → H p = none → H' p = some (.lst (iv (zs (mv M c k)))) → Q (.ref p) H'
def spThin : Sp := fun vs H Q _ => ∃ (a : Addr) (c : List Nat) (k M : Nat), vs = [.ref a, .int k, .int M] ∧ H a = some (.lst (iv (zs c))) ∧ 0 < M ∧ k < 2 ^ 32 ∧ c.length ≤ 8 ∧ Words32 c ∧
  ∀ H' p, Same H H' → H p = none → H' p = some (.lst (iv (zs (byWords M (thin M c k))))) → Q (.ref p) H'
def spPer : Sp := fun vs H Q _ => ∃ (a : Addr) (c : List Nat) (n : Nat), vs = [.ref a, .int (2 ^ n : Nat)] ∧ H a = some (.lst (iv (zs c))) ∧ n ≤ 32 ∧ c ≠ [] ∧ c.length ≤ 8 ∧ normal c = c ∧ (∀ x ∈ c, x < 2 ^ n) ∧
  ∀ H', Same H H' → Q (.int (2 ^ Cm05.periodExp n c : Nat)) H'

abbrev s_chain_by_words : Stmt := topS 29
theorem sc_chain_by_words : FnScope ["first_words", "size", "found", "row", "now", "later"] ["first_words", "size"] (defScope s_chain_by_words) := ⟨rfl, rfl, rfl, by decide +kernel, rfl, by decide +kernel, by decide +kernel⟩
abbrev s_product : Stmt := topS 30
theorem sc_product : FnScope ["first", "second", "size", "length", "words", "turns"] ["first", "second", "size"] (defScope s_product) := ⟨rfl, rfl, rfl, by decide +kernel, rfl, by decide +kernel, by decide +kernel⟩
abbrev s_moved : Stmt := topS 31
theorem sc_moved : FnScope ["words", "turns", "size", "place"] ["words", "turns", "size"] (defScope s_moved) := ⟨rfl, rfl, rfl, by decide +kernel, rfl, by decide +kernel, by decide +kernel⟩
abbrev s_thinned : Stmt := topS 32
theorem sc_thinned : FnScope ["words", "turns", "size", "first_words", "count"] ["words", "turns", "size"] (defScope s_thinned) := ⟨rfl, rfl, rfl, by decide +kernel, rfl, by decide +kernel, by decide +kernel⟩
abbrev s_period_of : Stmt := topS 33
theorem sc_period_of : FnScope ["words", "size", "turns"] ["words", "size"] (defScope s_period_of) := ⟨rfl, rfl, rfl, by decide +kernel, rfl, by decide +kernel, by decide +kernel⟩

theorem diff_at {M : Nat} (hM : 0 < M) {row : List Nat} {i x y : Nat} (hx : row[i]? = some x) (hy : row[i + 1]? = some y) : ∃ z, (Cm05.differences M row)[i]? = some z ∧ ((y : Int) - (x : Int)) % (M : Int) = (z : Int) := by
  have hi : i + 1 < row.length := (List.getElem?_eq_some_iff.mp hy).1
  have hd : i < (Cm05.differences M row).length := by
    rw [differences_length]
    omega
  refine ⟨_, List.getElem?_eq_getElem hd, ?_⟩
  have g := differences_get M row i hi
  rw [List.getD_eq_getElem?_getD, List.getD_eq_getElem?_getD, List.getD_eq_getElem?_getD, hx, hy, List.getElem?_eq_getElem hd] at g
  have g : (Cm05.differences M row)[i] = (y + (M - x % M)) % M := g
  rw [g, ← mix_less hM]
  unfold mix
  rw [Int.toNat_of_nonneg (Int.emod_nonneg _ (by omega)), Int.neg_mul, Int.one_mul, Int.sub_eq_add_neg]
theorem iv_nat {c : List Nat} {i : Nat} {x : V} (h : (iv (zs c))[i]? = some x) : ∃ y : Nat, c[i]? = some y ∧ x = .int (y : Int) := by
  obtain ⟨z, hz, rfl⟩ := iv_get h
  rw [List.getElem?_map] at hz
  cases e : c[i]? with
  | none => rw [e] at hz; cases hz
  | some y => rw [e] at hz; exact ⟨y, rfl, by rw [← Option.some.inj hz]⟩
theorem zs_drop (c : List Nat) (k : Nat) : (zs c).drop k = zs (c.drop k) := (List.map_drop).symm
theorem iv_len (c : List Nat) : (iv (zs c)).length = c.length := by rw [List.length_map, List.length_map]
/-- one more number in a list of numbers -/
theorem iv_more {l : List Nat} {i z : Nat} (h : l[i]? = some z) : iv (zs (l.take i)) ++ [V.int (z : Int)] = iv (zs (l.take (i + 1))) := by
  rw [take_more h]
  simp only [iv, zs, List.map_append]
  rfl

section
variable {P : Program} {w : World} {K : PySem.W.Frag} {mg : Str → Option Value} {base : Heap} {C : Addr}
theorem ok_chain_by_words (T : Txt K mg C) (D : Def K mg "chain_by_words" s_chain_by_words ["first_words", "size"]) : Cal P w K mg base 1 "chain_by_words" spCBW := by
  refine D.cal sc_chain_by_words (fun vs H Q E h => ?_) (fun fa cdv A outer st H vs Q E hr h => ?_)
  · obtain ⟨a, c, M, rfl, _⟩ := h
    rfl
  · obtain ⟨a, c, M, rfl, hA, hlen, hM, q⟩ := h
    refine ⟨_, (pss_cons (ps_set (i := 2) sc_chain_by_words.nd rfl (Or.inl rfl) (pe_lst pa_nil))
    (pss_cons (ps_set (i := 3) sc_chain_by_words.nd rfl (Or.inl rfl) (pv 0))
    (pss_cons (ps_while PassesOwn.never (pt_cmpR op_gt (pe_callB call_len_seq (by rfl) T.b_len (by decide +kernel) (pa_cons (pv 3) pa_nil)) pe_int (nomark _))
      (pss_cons (ps_expr (pe_bm PySem.F.plainAttrs_list PySem.F.slot_list_append PySem.F.type_list_append mt_append (pv 2) (pa_cons (pe_ix ix_list (pv 3) pe_int (fun _ _ => rfl)) pa_nil)))
    (pss_one (ps_setLc (i := 3) (own := [("now", 4), ("later", 5)]) (g := gTup K 2 (gCons (gName 4) (gCons (gName 5) gNil))) (by rfl) sc_chain_by_words.nd rfl rfl (sw_true rfl rfl rfl (by decide +kernel)) (pi_zip (by rfl) T.b_zip (pa_cons (pv 3) (pa_cons (pe_slice sl_list (pv 3) (po_some pe_int) po_none) pa_nil))) (blkOk_by (own := [("now", 4), ("later", 5)]) (N := ["first_words", "size", "found", "row", "now", "later"]) (sc := defScope s_chain_by_words) (by decide +kernel)) (fun _ _ _ _ _ => pg_tup (by rfl) (pgs_cons (pg_name (i := 4) sc_chain_by_words.nd rfl (Or.inl rfl)) (pgs_cons (pg_name (i := 5) sc_chain_by_words.nd rfl (Or.inl rfl)) pgs_nil))) (fun _ _ _ _ _ => pts_nil) (fun _ _ _ _ _ => (pe_op op_mod (pe_op op_sub (pv 5) (pv 4)) (pv 1)))))))
    (pss_one (ps_ret (pv 2)))))), ?_⟩
    refine ⟨Nat.zero_le _, fun fl nfl => ?_⟩
    have s0 := same_upd (o := .lst []) nfl
    refine ⟨_, rfl, ?_⟩
    refine ⟨fun m σ H' => ∃ (r : Addr) (pre row : List Nat), σ = [some (.ref a), some (.int M), some (.ref fl), some (.ref r), none, none] ∧ row.length = m ∧ Same H H' ∧ H' fl = some (.lst (iv (zs pre))) ∧ H' r = some (.lst (iv (zs row))) ∧ r ≠ fl ∧ pre ++ byWords M row = byWords M c,
      ⟨c.length, a, [], c, rfl, rfl, s0, upd_same, s0 _ _ hA, ne_of_none hA nfl, rfl⟩, ?_⟩
    rintro m σ H' ⟨r, pre, row, rfl, hm, sm, hf, hrow, nrf, ep⟩
    have el : ((iv (zs row)).length : Int) = (row.length : Int) := by rw [iv_len]
    refine ⟨_, rfl, r, _, rfl, .inl (SqL.of hrow), _, _, rfl, rfl, _, rfl, ite2 (fun g => ?_) (fun g => ?_)⟩
    · have g : (0 : Int) < ((iv (zs row)).length : Int) := of_decide_eq_true g
      have lenB : pre.length + row.length = c.length := by
        have := congrArg List.length ep
        rw [List.length_append, byWords_length, byWords_length] at this
        exact this
      refine ⟨fun σ' H2 => ∃ m', m' < m ∧ ∃ (r : Addr) (pre row : List Nat), σ' = [some (.ref a), some (.int M), some (.ref fl), some (.ref r), none, none] ∧ row.length = m' ∧ Same H H2 ∧ H2 fl = some (.lst (iv (zs pre))) ∧ H2 r = some (.lst (iv (zs row))) ∧ r ≠ fl ∧ pre ++ byWords M row = byWords M c, fun _ _ h => h, ?_⟩
      obtain ⟨x, l, rfl⟩ : ∃ x l, row = x :: l := by
        cases row with
        | nil => exact absurd g (by decide)
        | cons x l => exact ⟨x, l, rfl⟩
      refine ⟨_, rfl, .inl ⟨rfl, _, SqL.of hf⟩, _, rfl, r, _, 0, _, rfl, rfl, SqL.of hrow, iv_atI (i := 0) (zs_get rfl), fl, _, _, rfl, rfl, hf, ?_, ?_⟩
      · rw [iv_len]
        exact small1000 (by omega)
      have hf1 : (upd H' fl (.lst (iv (zs pre) ++ [.int x]))) fl = some (.lst (iv (zs (pre ++ [x])))) := by
        rw [upd_same]
        simp only [iv, zs, List.map_append]
        rfl
      have hr1 : (upd H' fl (.lst (iv (zs pre) ++ [.int x]))) r = some (.lst (iv (zs (x :: l)))) := by
        rw [upd_ne nrf]
        exact hrow
      have s1 : Same H (upd H' fl (.lst (iv (zs pre) ++ [.int x]))) := fun b o e => by
        rw [upd_ne (ne_of_none e nfl)]
        exact sm _ _ e
      generalize upd H' fl (.lst (iv (zs pre) ++ [.int x])) = H1 at hf1 hr1 s1
      refine ⟨_, rfl, _, rfl, _, rfl, r, _, rfl, SqL.of hr1, fun p np => ?_⟩
      have ecut : cutV (iv (zs (x :: l))) (some 1) none = iv (zs l) := by
        have := cut_from (zs (x :: l)) 1
        rw [zs_drop] at this
        exact this
      rw [ecut]
      have s2 := same_upd (o := .lst (iv (zs l))) np
      have hp : (upd H1 p (.lst (iv (zs l)))) p = some (.lst (iv (zs l))) := upd_same
      generalize upd H1 p (.lst (iv (zs l))) = H2 at s2 hp
      refine ⟨r, p, _, _, rfl, SqL.of (s2 _ _ hr1), SqL.of hp, fun e ne => ?_⟩
      refine lc_it (walk_zip (K := K) (a := r) (b := p) (xs := iv (zs (x :: l))) (ys := iv (zs l)) (n := l.length) (by rw [iv_len, iv_len]; show _ = min (l.length + 1) l.length; omega))
        (fun i H3 => Same H2 H3 ∧ H3 e = some (.lst (iv (zs ((Cm05.differences M (x :: l)).take i))))) ⟨same_upd ne, by rw [upd_same]; rfl⟩ (fun i H3 _ h => ⟨h.1.seq (SqL.of (s2 _ _ hr1)), h.1.seq (SqL.of hp)⟩) ?_ ?_
      · rintro i v0 H3 H5 hi0 ⟨sm3, he⟩ ⟨tu, x1, y1, rfl, nT, rfl, hx, hy⟩
        obtain ⟨x2, hx2, rfl⟩ := iv_nat hx
        obtain ⟨y2, hy2, rfl⟩ := iv_nat hy
        refine ⟨tu, _, rfl, SqT.of upd_same, rfl, _, _, rfl, _, _, rfl, rfl, rfl, ?_⟩
        dsimp only [tYes]
        rw [if_pos rfl]
        refine ⟨_, rfl, _, rfl, _, _, rfl, rfl, _, rfl, _, _, rfl, rfl, by omega, ?_⟩
        have net : e ≠ tu := ne_of_none he nT
        obtain ⟨z, hz, ez⟩ := diff_at hM hx2 (show (x :: l)[i + 1]? = some y2 from hy2)
        refine ⟨_, by rw [upd_ne net]; exact he, ?_, ?_, ?_⟩
        · rw [iv_len, List.length_take]
          exact small1000 (by show min _ _ ≤ 1000; have : l.length ≤ 100 := (by have : (x :: l).length = l.length + 1 := rfl; omega); omega)
        · intro f o h
          rw [upd_ne (ne_of_none h ne), upd_ne (ne_of_none (sm3 _ _ h) nT)]
          exact sm3 _ _ h
        · rw [upd_same]
          dsimp only
          rw [ez, iv_more hz]
      · rintro H3 ⟨sm3, he⟩
        have ld : (Cm05.differences M (x :: l)).length = l.length := by rw [differences_length]; rfl
        rw [List.take_of_length_le (by omega)] at he
        refine ⟨l.length, by have : (x :: l).length = l.length + 1 := rfl; omega, e, pre ++ [x], Cm05.differences M (x :: l), rfl, ld, (s1.trans s2).trans sm3, sm3 _ _ (s2 _ _ hf1), he, ?_, ?_⟩
        · exact (ne_of_none (s2 _ _ hf1) ne).symm
        · rw [← ep, byWords_cons, List.append_assoc]
          rfl
    · have g : ¬ (0 : Int) < ((iv (zs row)).length : Int) := fun t => g (decide_eq_true t)
      have r0 : row = [] := List.eq_nil_of_length_eq_zero (by omega)
      subst r0
      have ep : pre = byWords M c := by
        rw [← ep]
        exact (List.append_nil pre).symm
      refine ⟨_, rfl, q H' fl sm nfl ?_⟩
      rw [← ep]
      exact hf

theorem ok_moved (T : Txt K mg C) (D : Def K mg "moved" s_moved ["words", "turns", "size"]) (C_word_after : Cal P w K mg base 1 "word_after" (spWA K)) : Cal P w K mg base 2 "moved" spMv := by
  refine D.cal sc_moved (fun vs H Q E h => ?_) (fun fa cdv A outer st H vs Q E hr h => ?_)
  · obtain ⟨a, c, k, M, rfl, _⟩ := h
    rfl
  · obtain ⟨a, c, k, M, rfl, hA, hM, hk, hlen, hw, q⟩ := h
    refine ⟨_, (pss_one (ps_ret (pe_lc (own := [("place", 3)]) (g := gName 3) (by rfl) sc_moved.nd (pi_range1 (by rfl) T.b_range (pa_cons (pe_callB call_len_seq (by rfl) T.b_len (by decide +kernel) (pa_cons (pv 0) pa_nil)) pa_nil)) (blkOk_by (own := [("place", 3)]) (N := ["words", "turns", "size", "place"]) (sc := defScope s_moved) (by decide +kernel)) (fun _ _ _ _ _ => pg_name (i := 3) sc_moved.nd rfl (Or.inl rfl)) (fun _ _ _ _ _ => pts_nil) (fun _ _ _ _ _ => (pe_c C_word_after hr (by decide) (by rfl) (pa_cons (pe_slice (show SlR _ (rSlL K) from sl_list) (pv 0) (po_some (pv 3)) po_none) (pa_cons (pv 1) (pa_cons (pv 2) pa_nil)))))))), ?_⟩
    have el : ((iv (zs c)).length : Int) = (c.length : Int) := by rw [iv_len]
    refine ⟨_, rfl, a, _, rfl, .inl (SqL.of hA), _, rfl, by omega, by omega, fun d nd => ?_⟩
    rw [el, Int.toNat_natCast]
    refine lc_range (lo := 0) (n := c.length) (fun i H' => Same H H' ∧ H' d = some (.lst (iv (zs ((mv M c k).take i))))) ⟨same_upd nd, by rw [upd_same]; rfl⟩ ?_ ?_
    · rintro i H' hi ⟨sm, hd⟩
      refine ⟨rfl, ?_⟩
      dsimp only [tYes]
      rw [if_pos rfl]
      refine ⟨_, rfl, _, rfl, _, rfl, a, _, rfl, SqL.of (sm _ _ hA), fun p np => ?_⟩
      rw [Int.zero_add, cut_from, zs_drop]
      have s2 := same_upd (o := .lst (iv (zs (c.drop i)))) np
      refine ⟨_, rfl, _, rfl, p, c.drop i, k, M, rfl, SqL.of upd_same, hM, hk, by rw [List.length_drop]; omega, fun x hx => hw x (List.mem_of_mem_drop hx), fun H5 s5 => ?_⟩
      refine ⟨_, s5 _ _ (s2 _ _ hd), ?_, ?_, ?_⟩
      · rw [iv_len, List.length_take]
        exact small1000 (by omega)
      · intro f o h
        rw [upd_ne (ne_of_none h nd)]
        exact s5 _ _ (s2 _ _ (sm _ _ h))
      · have hz : (mv M c k)[i]? = some (Cm05.at_ M (c.drop i) k) := by
          unfold mv
          rw [List.getElem?_map, List.getElem?_range hi]
          rfl
        rw [upd_same, iv_more hz]
    · rintro H' ⟨sm, hd⟩
      rw [List.take_of_length_le (by rw [mv_length]; omega)] at hd
      exact q H' d sm nd hd
end
end Wt
/-! lists of whole numbers held against one another -/
namespace Wt
open PySem PySem.Spec PyProof.Rows L2
open Cm05 (normal choose total)

abbrev pd (ns : List Int) : List PyData := ns.map PyData.int
theorem pd_eqv : ∀ ns ms : List Int, PyData.eqvAll (pd ns) (pd ms) = decide (ns = ms)
  | [], [] => by
    show PyData.eqvAll [] [] = _
    rw [PyData.eqvAll]
    rfl
  | [], m :: ms => by
    show PyData.eqvAll [] (.int m :: pd ms) = _
    rw [PyData.eqvAll]
    rfl
  | n :: ns, [] => by
    show PyData.eqvAll (.int n :: pd ns) [] = _
    rw [PyData.eqvAll]
    rfl
  | n :: ns, m :: ms => by
    show PyData.eqvAll (.int n :: pd ns) (.int m :: pd ms) = _
    rw [PyData.eqvAll, PyData.eqv, pd_eqv ns ms]
    by_cases h : n = m
    · subst h
      by_cases g : ns = ms
      · subst g
        simp
      · simp [g]
    · simp [h]
theorem pd_dp {K : PySem.W.Frag} {H : Hp} : ∀ ns : List Int, DpAll K H (iv ns) (pd ns)
  | [] => .nil
  | n :: ns => .cons (.int n) (pd_dp ns)
theorem pd_lay : ∀ ns : List Int, PyData.canLayAll0 (pd ns) = true
  | [] => by
    show PyData.canLayAll0 [] = true
    rw [PyData.canLayAll0]
  | n :: ns => by
    show PyData.canLayAll0 (.int n :: pd ns) = true
    rw [PyData.canLayAll0, PyData.canLay0, pd_lay ns]
    rfl
theorem pd_depth : ∀ ns : List Int, PyData.depthAll (pd ns) ≤ 1
  | [] => by
    show PyData.depthAll [] ≤ 1
    rw [PyData.depthAll]
    exact Nat.zero_le _
  | n :: ns => by
    show PyData.depthAll (.int n :: pd ns) ≤ 1
    have := pd_depth ns
    rw [PyData.depthAll, PyData.depth]
    omega
theorem pd_shaped (ns : List Int) : SeqAt.shaped (.list (pd ns)) = true := by
  unfold SeqAt.shaped
  have := pd_depth ns
  rw [PyData.canLay0, pd_lay, PyData.depth, Bool.true_and, decide_eq_true_eq]
  omega
theorem zs_inj {c d : List Nat} : zs c = zs d ↔ c = d := by
  constructor
  · intro h
    have : (zs c).map Int.toNat = (zs d).map Int.toNat := by rw [h]
    simpa [zs, List.map_map, Function.comp_def] using this
  · intro h
    rw [h]
end Wt
/-! turning.py, third part -/
namespace Wt
open PySem PySem.Spec PyProof.Rows L2
open Cm05 (normal choose total)

theorem at_lt {M : Nat} (hM : 0 < M) (c : List Nat) (k : Nat) : Cm05.at_ M c k < M := Nat.mod_lt _ hM
section
variable {P : Program} {w : World} {K : PySem.W.Frag} {mg : Str → Option Value} {base : Heap} {C : Addr}
theorem ok_product (T : Txt K mg C) (D : Def K mg "product" s_product ["first", "second", "size"]) (C_word_after : Cal P w K mg base 1 "word_after" (spWA K)) (C_chain_by_words : Cal P w K mg base 1 "chain_by_words" spCBW) : Cal P w K mg base 2 "product" spProd := by
  refine D.cal sc_product (fun vs H Q E h => ?_) (fun fa cdv A outer st H vs Q E hr h => ?_)
  · obtain ⟨a, b, c, d, M, rfl, _⟩ := h
    rfl
  · obtain ⟨a, b, c, d, M, rfl, hA, hB, hne, hc8, hd8, hcw, hdw, hM, hM32, q⟩ := h
    refine ⟨_, (pss_cons (ps_set (i := 3) sc_product.nd rfl (Or.inl rfl) (pe_op op_sub (pe_op op_add (pe_callB call_len_seq (by rfl) T.b_len (by decide +kernel) (pa_cons (pv 0) pa_nil)) (pe_callB call_len_seq (by rfl) T.b_len (by decide +kernel) (pa_cons (pv 1) pa_nil))) pe_int))
    (pss_cons (ps_setLc (i := 4) (own := [("turns", 5)]) (g := gName 5) (by rfl) sc_product.nd rfl rfl (sw_true rfl rfl rfl (by decide +kernel)) (pi_range1 (by rfl) T.b_range (pa_cons (pv 3) pa_nil)) (blkOk_by (own := [("turns", 5)]) (N := ["first", "second", "size", "length", "words", "turns"]) (sc := defScope s_product) (by decide +kernel)) (fun _ _ _ _ _ => pg_name (i := 5) sc_product.nd rfl (Or.inl rfl)) (fun _ _ _ _ _ => pts_nil) (fun _ _ _ _ _ => (pe_op op_mod (pe_op op_mul (pe_c C_word_after hr (by decide) (by rfl) (pa_cons (pv 0) (pa_cons (pv 5) (pa_cons (pv 2) pa_nil)))) (pe_c C_word_after hr (by decide) (by rfl) (pa_cons (pv 1) (pa_cons (pv 5) (pa_cons (pv 2) pa_nil))))) (pv 2))))
    (pss_one (ps_ret (pe_c C_chain_by_words hr (by decide) (by rfl) (pa_cons (pv 4) (pa_cons (pv 2) pa_nil))))))), ?_⟩
    have hl0 : 0 < c.length := List.length_pos_iff.mpr hne
    have el : ((iv (zs c)).length : Int) + ((iv (zs d)).length : Int) - 1 = ((c.length + d.length - 1 : Nat) : Int) := by
      rw [iv_len, iv_len]
      omega
    refine ⟨_, rfl, a, _, rfl, .inl (SqL.of hA), _, rfl, b, _, rfl, .inl (SqL.of hB), _, _, rfl, rfl, _, _, rfl, rfl, ?_⟩
    dsimp only
    rw [el]
    refine ⟨_, rfl, _, rfl, by omega, by omega, fun e ne => ?_⟩
    rw [Int.toNat_natCast]
    have lp : (prods M c d).length = c.length + d.length - 1 := by
      unfold prods
      rw [List.length_map, List.length_range]
    refine lc_range (lo := 0) (n := c.length + d.length - 1) (fun i H' => Same H H' ∧ H' e = some (.lst (iv (zs ((prods M c d).take i))))) ⟨same_upd ne, by rw [upd_same]; rfl⟩ ?_ ?_
    · rintro i H' hi ⟨sm, he⟩
      refine ⟨rfl, ?_⟩
      dsimp only [tYes]
      rw [if_pos rfl]
      have e0 : (0 : Int) + (i : Nat) = (i : Nat) := Int.zero_add _
      refine ⟨_, rfl, _, rfl, _, rfl, a, c, i, M, by rw [e0]; rfl, SqL.of (sm _ _ hA), hM, by omega, by omega, hcw, fun H5 s5 => ?_⟩
      refine ⟨_, rfl, _, rfl, _, rfl, b, d, i, M, by rw [e0]; rfl, SqL.of (s5 _ _ (sm _ _ hB)), hM, by omega, by omega, hdw, fun H6 s6 => ?_⟩
      have l1 := at_lt hM c i
      have l2 := at_lt hM d i
      refine ⟨_, _, rfl, rfl, .inl ⟨by omega, by omega⟩, _, rfl, _, _, rfl, rfl, by omega, ?_⟩
      refine ⟨_, s6 _ _ (s5 _ _ he), ?_, ?_, ?_⟩
      · rw [iv_len, List.length_take]
        exact small1000 (by omega)
      · intro f o h
        rw [upd_ne (ne_of_none h ne)]
        exact s6 _ _ (s5 _ _ (sm _ _ h))
      · have hz : (prods M c d)[i]? = some (Cm05.at_ M c i * Cm05.at_ M d i % M) := by
          unfold prods
          rw [List.getElem?_map, List.getElem?_range hi]
          rfl
        rw [upd_same, ← iv_more hz, Int.natCast_emod, Int.natCast_mul]
    · rintro H' ⟨sm, he⟩
      rw [List.take_of_length_le (by omega)] at he
      refine ⟨_, rfl, _, rfl, e, prods M c d, M, rfl, he, by omega, hM, fun H7 p s7 np hp => ?_⟩
      exact q H7 p (sm.trans s7) (sm.free np) hp
theorem ok_thinned (T : Txt K mg C) (D : Def K mg "thinned" s_thinned ["words", "turns", "size"]) (C_word_after : Cal P w K mg base 1 "word_after" (spWA K)) (C_chain_by_words : Cal P w K mg base 1 "chain_by_words" spCBW) : Cal P w K mg base 2 "thinned" spThin := by
  refine D.cal sc_thinned (fun vs H Q E h => ?_) (fun fa cdv A outer st H vs Q E hr h => ?_)
  · obtain ⟨a, c, k, M, rfl, _⟩ := h
    rfl
  · obtain ⟨a, c, k, M, rfl, hA, hM, hk, hc8, hw, q⟩ := h
    refine ⟨_, (pss_cons (ps_setLc (i := 3) (own := [("count", 4)]) (g := gName 4) (by rfl) sc_thinned.nd rfl rfl (sw_true rfl rfl rfl (by decide +kernel)) (pi_range1 (by rfl) T.b_range (pa_cons (pe_callB call_len_seq (by rfl) T.b_len (by decide +kernel) (pa_cons (pv 0) pa_nil)) pa_nil)) (blkOk_by (own := [("count", 4)]) (N := ["words", "turns", "size", "first_words", "count"]) (sc := defScope s_thinned) (by decide +kernel)) (fun _ _ _ _ _ => pg_name (i := 4) sc_thinned.nd rfl (Or.inl rfl)) (fun _ _ _ _ _ => pts_nil) (fun _ _ _ _ _ => (pe_c C_word_after hr (by decide) (by rfl) (pa_cons (pv 0) (pa_cons (pe_op op_mul (pv 4) (pv 1)) (pa_cons (pv 2) pa_nil))))))
    (pss_one (ps_ret (pe_c C_chain_by_words hr (by decide) (by rfl) (pa_cons (pv 3) (pa_cons (pv 2) pa_nil)))))), ?_⟩
    have el : ((iv (zs c)).length : Int) = (c.length : Int) := by rw [iv_len]
    refine ⟨_, rfl, a, _, rfl, .inl (SqL.of hA), _, rfl, by omega, by omega, fun e ne => ?_⟩
    rw [el, Int.toNat_natCast]
    have lp : (thin M c k).length = c.length := by
      unfold thin
      rw [List.length_map, List.length_range]
    refine lc_range (lo := 0) (n := c.length) (fun i H' => Same H H' ∧ H' e = some (.lst (iv (zs ((thin M c k).take i))))) ⟨same_upd ne, by rw [upd_same]; rfl⟩ ?_ ?_
    · rintro i H' hi ⟨sm, he⟩
      refine ⟨rfl, ?_⟩
      dsimp only [tYes]
      rw [if_pos rfl]
      have e0 : ((0 : Int) + (i : Nat)) * (k : Nat) = ((i * k : Nat) : Int) := by rw [Int.zero_add, Int.natCast_mul]
      have b0 : i * k ≤ 8 * k := Nat.mul_le_mul_right k (by omega)
      refine ⟨_, rfl, _, rfl, _, rfl, _, _, rfl, rfl, .inr ⟨by omega, by omega⟩, _, rfl, a, c, i * k, M, by dsimp only; rw [e0]; rfl, SqL.of (sm _ _ hA), hM, by omega, by omega, hw, fun H5 s5 => ?_⟩
      refine ⟨_, s5 _ _ he, ?_, ?_, ?_⟩
      · rw [iv_len, List.length_take]
        exact small1000 (by omega)
      · intro f o h
        rw [upd_ne (ne_of_none h ne)]
        exact s5 _ _ (sm _ _ h)
      · have hz : (thin M c k)[i]? = some (Cm05.at_ M c (i * k)) := by
          unfold thin
          rw [List.getElem?_map, List.getElem?_range hi]
          rfl
        rw [upd_same, ← iv_more hz]
    · rintro H' ⟨sm, he⟩
      rw [List.take_of_length_le (by omega)] at he
      refine ⟨_, rfl, _, rfl, e, thin M c k, M, rfl, he, by omega, hM, fun H7 p s7 np hp => ?_⟩
      exact q H7 p (sm.trans s7) (sm.free np) hp
theorem ok_period_of (D : Def K mg "period_of" s_period_of ["words", "size"]) (C_moved : Cal P w K mg base 2 "moved" spMv) : Cal P w K mg base 3 "period_of" spPer := by
  refine D.cal sc_period_of (fun vs H Q E h => ?_) (fun fa cdv A outer st H vs Q E hr h => ?_)
  · obtain ⟨a, c, n, rfl, _⟩ := h
    rfl
  · obtain ⟨a, c, n, rfl, hA, hn, hne, hc8, hnm, hw, q⟩ := h
    refine ⟨_, (pss_cons (ps_set (i := 2) sc_period_of.nd rfl (Or.inl rfl) pe_int)
    (pss_cons (ps_while PassesOwn.never (pt_cmpR (op_neD hr.units) (pe_c C_moved hr (by decide) (by rfl) (pa_cons (pv 0) (pa_cons (pv 2) (pa_cons (pv 1) pa_nil)))) (pv 0) (nomark _))
      (pss_one (ps_set (i := 2) sc_period_of.nd rfl (Or.inl rfl) (pe_op op_mul (pv 2) pe_int))))
    (pss_one (ps_ret (pv 2))))), ?_⟩
    obtain ⟨p1, p2, p3⟩ := periodExp_least hc8 hw hnm
    have hM := Nat.two_pow_pos n
    have w32 : Words32 c := fun x hx => Nat.lt_of_lt_of_le (hw x hx) (pow32 hn)
    generalize Cm05.periodExp n c = pe at *
    refine ⟨fun m σ H' => ∃ e : Nat, e + m = pe ∧ Same H H' ∧ σ = [some (.ref a), some (.int (2 ^ n : Nat)), some (.int (2 ^ e : Nat))], ⟨pe, 0, by omega, .refl _, rfl⟩, ?_⟩
    rintro m σ H' ⟨e, hem, sm, rfl⟩
    have be : 2 ^ e ≤ 2 ^ 34 := Nat.pow_le_pow_right (by decide) (by omega)
    refine ⟨_, rfl, _, rfl, _, rfl, a, c, 2 ^ e, 2 ^ n, rfl, sm _ _ hA, hM, by omega, hc8, w32, fun H2 p s2 np hp => ?_⟩
    have s3 := sm.trans s2
    refine ⟨_, rfl, .list (pd (zs (mv (2 ^ n) c (2 ^ e)))), .list (pd (zs c)), .lst (SqL.of hp) (pd_dp _), .lst (SqL.of (s3 _ _ hA)) (pd_dp _), pd_shaped _, pd_shaped _, _, rfl, ?_⟩
    rw [PyData.eqv, pd_eqv]
    by_cases z : e = pe
    · subst z
      have hz : zs (mv (2 ^ n) c (2 ^ e)) = zs c := by rw [(mv_iff hne hnm).mpr p2]
      rw [decide_eq_true hz]
      exact iteF ⟨_, rfl, q H2 s3⟩
    · have hz : ¬ zs (mv (2 ^ n) c (2 ^ e)) = zs c := fun h => p3 e (by omega) ((mv_iff hne hnm).mp (zs_inj.mp h))
      rw [decide_eq_false hz]
      refine iteT ⟨fun σ' H2 => ∃ m', m' < m ∧ ∃ e : Nat, e + m' = pe ∧ Same H H2 ∧ σ' = [some (.ref a), some (.int (2 ^ n : Nat)), some (.int (2 ^ e : Nat))], fun _ _ h => h, ?_⟩
      refine ⟨_, rfl, _, _, rfl, rfl, .inr ⟨by decide, by decide⟩, m - 1, by omega, e + 1, by omega, s3, ?_⟩
      rw [Nat.pow_succ, Int.natCast_mul]
      rfl
end
end Wt
/-! chains.py: the defs of stage 2's calls -/
namespace Wt
open PySem PySem.Spec PyProof.Rows L2
open Cm05 (normal)

abbrev s_times : Stmt := topS 56
theorem sc_times : FnScope ["table", "numbers", "first", "second"] ["table", "numbers"] (defScope s_times) := ⟨rfl, rfl, rfl, by decide +kernel, rfl, by decide +kernel, by decide +kernel⟩
abbrev s_ahead : Stmt := topS 57
theorem sc_ahead : FnScope ["table", "numbers"] ["table", "numbers"] (defScope s_ahead) := ⟨rfl, rfl, rfl, by decide +kernel, rfl, by decide +kernel, by decide +kernel⟩
abbrev s_every : Stmt := topS 58
theorem sc_every : FnScope ["table", "numbers"] ["table", "numbers"] (defScope s_every) := ⟨rfl, rfl, rfl, by decide +kernel, rfl, by decide +kernel, by decide +kernel⟩
abbrev s_sums : Stmt := topS 59
theorem sc_sums : FnScope ["table", "numbers"] ["table", "numbers"] (defScope s_sums) := ⟨rfl, rfl, rfl, by decide +kernel, rfl, by decide +kernel, by decide +kernel⟩
abbrev s_period : Stmt := topS 60
theorem sc_period : FnScope ["table", "numbers"] ["table", "numbers"] (defScope s_period) := ⟨rfl, rfl, rfl, by decide +kernel, rfl, by decide +kernel, by decide +kernel⟩
abbrev s_same : Stmt := topS 61
theorem sc_same : FnScope ["table", "numbers"] ["table", "numbers"] (defScope s_same) := ⟨rfl, rfl, rfl, by decide +kernel, rfl, by decide +kernel, by decide +kernel⟩

theorem all2 {p q : Nat} (h : [p, q].all Cm05.isChain = true) : p < 8 ∧ q < 8 := by
  rw [List.all_eq_true] at h
  exact ⟨isChain_iff.mp (h p (by simp)), isChain_iff.mp (h q (by simp))⟩
theorem mv_ne {M d : Nat} {c : List Nat} (h : c ≠ []) : mv M c d ≠ [] := by
  intro e
  have := congrArg List.length e
  rw [mv_length] at this
  exact h (List.eq_nil_of_length_eq_zero this)
theorem thin_ne {M d : Nat} {c : List Nat} (h : c ≠ []) : thin M c d ≠ [] := by
  intro e
  have := congrArg List.length e
  unfold thin at this
  rw [List.length_map, List.length_range] at this
  exact h (List.eq_nil_of_length_eq_zero this)
theorem prods_ne {M : Nat} {c d : List Nat} (h : c ≠ []) (h' : d ≠ []) : prods M c d ≠ [] := by
  intro e
  have := congrArg List.length e
  unfold prods at this
  rw [List.length_map, List.length_range, List.length_nil] at this
  have := List.length_pos_iff.mpr h
  have := List.length_pos_iff.mpr h'
  omega

section
variable {P : Program} {w : World} {K : PySem.W.Frag} {mg : Str → Option Value} {base : Heap} {C : Addr}
theorem ok_times (T : Txt K mg C) (D : Def K mg "times" s_times ["table", "numbers"]) (C_are_chains : Cal P w K mg base 1 "are_chains" (spAreChains K)) (M_words_of : Met P w K mg base 1 C "words_of" (spWordsOf C)) (C_product : Cal P w K mg base 2 "product" spProd)
    (C_stored : Cal P w K mg base 3 "stored" (spStored K C)) : Cal P w K mg base 4 "times" (spCall K C R9) := by
  refine D.cal sc_times spCall_len (fun fa cdv A outer st H vs Q E hr h => ?_)
  obtain ⟨N, a, l, nl, m, ns, x, rfl, t, g, hS, ⟨z, x, y, rfl, rfl⟩, q⟩ := h
  refine ⟨_, (pss_cons (ps_if (pt_not (pt_val (pe_c C_are_chains hr (by decide) (by rfl) (pa_cons (pv 1) pa_nil))))
      (pss_one (ps_ret (pe_lst (pa_cons (pe_gi (by rfl) T.c_NO_CHAIN) pa_nil))))
      pss_nil)
    (pss_cons (ps_set (i := 2) sc_times.nd rfl (Or.inl rfl) (pe_mt M_words_of hr (by decide) (pv 0) (pa_cons (pe_ix ix_list (pv 1) pe_int (fun _ _ => rfl)) pa_nil)))
    (pss_cons (ps_set (i := 3) sc_times.nd rfl (Or.inl rfl) (pe_mt M_words_of hr (by decide) (pv 0) (pa_cons (pe_ix ix_list (pv 1) pe_int (fun _ _ => rfl)) pa_nil)))
    (pss_one (ps_ret (pe_c C_stored hr (by decide) (by rfl) (pa_cons (pv 0) (pa_cons (pe_ix ix_list (pv 1) pe_int (fun _ _ => rfl)) (pa_cons (pe_c C_product hr (by decide) (by rfl) (pa_cons (pv 2) (pa_cons (pv 3) (pa_cons (pe_fld (pv 0) rfl) pa_nil)))) pa_nil))))))))), ?_⟩
  unfold Cm05.step at q
  dsimp only at q
  rw [times_by (M := Cm05.M m) (Nat.two_pow_pos _)] at q
  obtain ⟨dx, hA⟩ := tbl_ins t
  refine ⟨_, rfl, nl, zs [z, x, y], rfl, hS, by show 3 ≤ 1000; decide, fun H1 s1 => ?_⟩
  rw [all_chains]
  refine ⟨_, rfl, ?_⟩
  cases hp : [z, x, y].all Cm05.isChain with
  | false =>
    rw [put_no hp] at q
    exact iteT ⟨by show 1 ≤ sizeLine; decide, fun p np => q.new t s1 np⟩
  | true =>
    rw [put_ok hp] at q
    refine iteF ?_
    obtain ⟨hz, hx, hy⟩ := all3 hp
    have hcx := g.chain hx
    have hcy := g.chain hy
    refine ⟨_, rfl, a, dx, _, rfl, s1 _ _ hA, fF_words _ _, _, rfl, nl, _, 1, _, rfl, rfl, s1.seq hS, iv_atI (i := 1) rfl, N, a, l, m, x, rfl, t.same s1, by rw [g.len]; exact hx, fun w1 nw1 => ?_⟩
    have s2 := s1.trans (same_upd (o := .lst (iv (zs (Cm05.chainAt m x)))) nw1)
    have h1 : (upd H1 w1 (.lst (iv (zs (Cm05.chainAt m x))))) w1 = some (.lst (iv (zs (Cm05.chainAt m x)))) := upd_same
    generalize upd H1 w1 (.lst (iv (zs (Cm05.chainAt m x)))) = H2 at s2 h1
    refine ⟨_, rfl, a, dx, _, rfl, s2 _ _ hA, fF_words _ _, _, rfl, nl, _, 2, _, rfl, rfl, s2.seq hS, iv_atI (i := 2) rfl, N, a, l, m, y, rfl, t.same s2, by rw [g.len]; exact hy, fun w2 nw2 => ?_⟩
    have s3' := same_upd (o := .lst (iv (zs (Cm05.chainAt m y)))) nw2
    have h2 : (upd H2 w2 (.lst (iv (zs (Cm05.chainAt m y))))) w2 = some (.lst (iv (zs (Cm05.chainAt m y)))) := upd_same
    generalize upd H2 w2 (.lst (iv (zs (Cm05.chainAt m y)))) = H3 at s3' h2
    have s3 := s2.trans s3'
    refine ⟨_, rfl, _, rfl, nl, _, 0, _, rfl, rfl, s3.seq hS, iv_atI (i := 0) rfl, _, rfl, _, rfl, _, rfl, a, C, dx, _, _, rfl, s3 _ _ hA, T.cf.cl, T.cf.nS, fF_size _ _, ?_⟩
    refine ⟨w1, w2, Cm05.chainAt m x, Cm05.chainAt m y, 2 ^ m.n, rfl, s3' _ _ h1, h2, hcx.1, hcx.2.1, hcy.2.1, g.words32 hx, g.words32 hy, Nat.two_pow_pos _, pow32 g.n2, fun H4 w3 s4 nw3 h3 => ?_⟩
    exact ⟨N, a, l, w3, m, z, _, rfl, t.same (s3.trans s4), by rw [g.len]; exact hz, SqL.of h3, byWords_ne (prods_ne hcx.1 hcy.1), q.back (s3.trans s4)⟩
theorem ok_ahead (T : Txt K mg C) (D : Def K mg "ahead" s_ahead ["table", "numbers"]) (C_are_chains : Cal P w K mg base 1 "are_chains" (spAreChains K)) (M_words_of : Met P w K mg base 1 C "words_of" (spWordsOf C)) (C_moved : Cal P w K mg base 2 "moved" spMv)
    (C_stored : Cal P w K mg base 3 "stored" (spStored K C)) : Cal P w K mg base 4 "ahead" (spCall K C R10) := by
  refine D.cal sc_ahead spCall_len (fun fa cdv A outer st H vs Q E hr h => ?_)
  obtain ⟨N, a, l, nl, m, ns, x, rfl, t, g, hS, ⟨z, x, d, rfl, hd, rfl⟩, q⟩ := h
  refine ⟨_, (pss_cons (ps_if (pt_not (pt_val (pe_c C_are_chains hr (by decide) (by rfl) (pa_cons (pe_slice sl_list (pv 1) po_none (po_some pe_int)) pa_nil))))
      (pss_one (ps_ret (pe_lst (pa_cons (pe_gi (by rfl) T.c_NO_CHAIN) pa_nil))))
      pss_nil)
    (pss_one (ps_ret (pe_c C_stored hr (by decide) (by rfl) (pa_cons (pv 0) (pa_cons (pe_ix ix_list (pv 1) pe_int (fun _ _ => rfl)) (pa_cons (pe_c C_moved hr (by decide) (by rfl) (pa_cons (pe_mt M_words_of hr (by decide) (pv 0) (pa_cons (pe_ix ix_list (pv 1) pe_int (fun _ _ => rfl)) pa_nil)) (pa_cons (pe_ix ix_list (pv 1) pe_int (fun _ _ => rfl)) (pa_cons (pe_fld (pv 0) rfl) pa_nil)))) pa_nil))))))), ?_⟩
  unfold Cm05.step at q
  dsimp only at q
  rw [ahead_by] at q
  obtain ⟨dx, hA⟩ := tbl_ins t
  refine ⟨_, rfl, _, rfl, nl, _, rfl, hS, fun cl ncl => ?_⟩
  rw [show cutV (iv (zs [z, x, d])) none (some 2) = iv (zs [z, x]) from cut_to (zs [z, x, d]) 2]
  have s1 := same_upd (o := .lst (iv (zs [z, x]))) ncl
  refine ⟨cl, zs [z, x], rfl, SqL.of upd_same, by show 2 ≤ 1000; decide, fun H1 s2 => ?_⟩
  replace s1 := s1.trans s2
  rw [all_chains]
  refine ⟨_, rfl, ?_⟩
  cases hp : [z, x].all Cm05.isChain with
  | false =>
    rw [put_no hp] at q
    exact iteT ⟨by show 1 ≤ sizeLine; decide, fun p np => q.new t s1 np⟩
  | true =>
    rw [put_ok hp] at q
    refine iteF ?_
    obtain ⟨hz, hx⟩ := all2 hp
    have hcx := g.chain hx
    refine ⟨_, rfl, _, rfl, nl, _, 0, _, rfl, rfl, s1.seq hS, iv_atI (i := 0) rfl, ?_⟩
    refine ⟨_, rfl, a, dx, _, rfl, s1 _ _ hA, fF_words _ _, _, rfl, nl, _, 1, _, rfl, rfl, s1.seq hS, iv_atI (i := 1) rfl, N, a, l, m, x, rfl, t.same s1, by rw [g.len]; exact hx, fun w1 nw1 => ?_⟩
    have s2 := s1.trans (same_upd (o := .lst (iv (zs (Cm05.chainAt m x)))) nw1)
    refine ⟨_, rfl, nl, _, 2, _, rfl, rfl, s2.seq hS, iv_atI (i := 2) rfl, _, rfl, a, C, dx, _, _, rfl, s2 _ _ hA, T.cf.cl, T.cf.nS, fF_size _ _, ?_⟩
    refine ⟨w1, Cm05.chainAt m x, d, 2 ^ m.n, rfl, upd_same, Nat.two_pow_pos _, by omega, hcx.2.1, g.words32 hx, fun H4 w3 s4 nw3 h3 => ?_⟩
    exact ⟨N, a, l, w3, m, z, _, rfl, t.same (s2.trans s4), by rw [g.len]; exact hz, SqL.of h3, mv_ne hcx.1, q.back (s2.trans s4)⟩
theorem ok_every (T : Txt K mg C) (D : Def K mg "every" s_every ["table", "numbers"]) (C_are_chains : Cal P w K mg base 1 "are_chains" (spAreChains K)) (M_words_of : Met P w K mg base 1 C "words_of" (spWordsOf C)) (C_thinned : Cal P w K mg base 2 "thinned" spThin)
    (C_stored : Cal P w K mg base 3 "stored" (spStored K C)) : Cal P w K mg base 4 "every" (spCall K C R11) := by
  refine D.cal sc_every spCall_len (fun fa cdv A outer st H vs Q E hr h => ?_)
  obtain ⟨N, a, l, nl, m, ns, x, rfl, t, g, hS, ⟨z, x, d, rfl, hd, rfl⟩, q⟩ := h
  refine ⟨_, (pss_cons (ps_if (pt_not (pt_val (pe_c C_are_chains hr (by decide) (by rfl) (pa_cons (pe_slice sl_list (pv 1) po_none (po_some pe_int)) pa_nil))))
      (pss_one (ps_ret (pe_lst (pa_cons (pe_gi (by rfl) T.c_NO_CHAIN) pa_nil))))
      pss_nil)
    (pss_one (ps_ret (pe_c C_stored hr (by decide) (by rfl) (pa_cons (pv 0) (pa_cons (pe_ix ix_list (pv 1) pe_int (fun _ _ => rfl)) (pa_cons (pe_c C_thinned hr (by decide) (by rfl) (pa_cons (pe_mt M_words_of hr (by decide) (pv 0) (pa_cons (pe_ix ix_list (pv 1) pe_int (fun _ _ => rfl)) pa_nil)) (pa_cons (pe_ix ix_list (pv 1) pe_int (fun _ _ => rfl)) (pa_cons (pe_fld (pv 0) rfl) pa_nil)))) pa_nil))))))), ?_⟩
  unfold Cm05.step at q
  dsimp only at q
  rw [every_by] at q
  obtain ⟨dx, hA⟩ := tbl_ins t
  refine ⟨_, rfl, _, rfl, nl, _, rfl, hS, fun cl ncl => ?_⟩
  rw [show cutV (iv (zs [z, x, d])) none (some 2) = iv (zs [z, x]) from cut_to (zs [z, x, d]) 2]
  have s1 := same_upd (o := .lst (iv (zs [z, x]))) ncl
  refine ⟨cl, zs [z, x], rfl, SqL.of upd_same, by show 2 ≤ 1000; decide, fun H1 s2 => ?_⟩
  replace s1 := s1.trans s2
  rw [all_chains]
  refine ⟨_, rfl, ?_⟩
  cases hp : [z, x].all Cm05.isChain with
  | false =>
    rw [put_no hp] at q
    exact iteT ⟨by show 1 ≤ sizeLine; decide, fun p np => q.new t s1 np⟩
  | true =>
    rw [put_ok hp] at q
    refine iteF ?_
    obtain ⟨hz, hx⟩ := all2 hp
    have hcx := g.chain hx
    refine ⟨_, rfl, _, rfl, nl, _, 0, _, rfl, rfl, s1.seq hS, iv_atI (i := 0) rfl, ?_⟩
    refine ⟨_, rfl, a, dx, _, rfl, s1 _ _ hA, fF_words _ _, _, rfl, nl, _, 1, _, rfl, rfl, s1.seq hS, iv_atI (i := 1) rfl, N, a, l, m, x, rfl, t.same s1, by rw [g.len]; exact hx, fun w1 nw1 => ?_⟩
    have s2 := s1.trans (same_upd (o := .lst (iv (zs (Cm05.chainAt m x)))) nw1)
    refine ⟨_, rfl, nl, _, 2, _, rfl, rfl, s2.seq hS, iv_atI (i := 2) rfl, _, rfl, a, C, dx, _, _, rfl, s2 _ _ hA, T.cf.cl, T.cf.nS, fF_size _ _, ?_⟩
    refine ⟨w1, Cm05.chainAt m x, d, 2 ^ m.n, rfl, upd_same, Nat.two_pow_pos _, hd, hcx.2.1, g.words32 hx, fun H4 w3 s4 nw3 h3 => ?_⟩
    exact ⟨N, a, l, w3, m, z, _, rfl, t.same (s2.trans s4), by rw [g.len]; exact hz, SqL.of h3, byWords_ne (thin_ne hcx.1), q.back (s2.trans s4)⟩
theorem ok_sums (T : Txt K mg C) (D : Def K mg "sums" s_sums ["table", "numbers"]) (C_are_chains : Cal P w K mg base 1 "are_chains" (spAreChains K)) (M_words_of : Met P w K mg base 1 C "words_of" (spWordsOf C)) (C_with_sums : Cal P w K mg base 1 "with_sums" spWS)
    (C_stored : Cal P w K mg base 3 "stored" (spStored K C)) : Cal P w K mg base 4 "sums" (spCall K C R12) := by
  refine D.cal sc_sums spCall_len (fun fa cdv A outer st H vs Q E hr h => ?_)
  obtain ⟨N, a, l, nl, m, ns, x, rfl, t, g, hS, ⟨z, x, rfl, rfl⟩, q⟩ := h
  refine ⟨_, (pss_cons (ps_if (pt_not (pt_val (pe_c C_are_chains hr (by decide) (by rfl) (pa_cons (pv 1) pa_nil))))
      (pss_one (ps_ret (pe_lst (pa_cons (pe_gi (by rfl) T.c_NO_CHAIN) pa_nil))))
      pss_nil)
    (pss_one (ps_ret (pe_c C_stored hr (by decide) (by rfl) (pa_cons (pv 0) (pa_cons (pe_ix ix_list (pv 1) pe_int (fun _ _ => rfl)) (pa_cons (pe_c C_with_sums hr (by decide) (by rfl) (pa_cons (pe_mt M_words_of hr (by decide) (pv 0) (pa_cons (pe_ix ix_list (pv 1) pe_int (fun _ _ => rfl)) pa_nil)) pa_nil)) pa_nil))))))), ?_⟩
  unfold Cm05.step Cm05.sums at q
  dsimp only at q
  obtain ⟨dx, hA⟩ := tbl_ins t
  refine ⟨_, rfl, nl, zs [z, x], rfl, hS, by show 2 ≤ 1000; decide, fun H1 s1 => ?_⟩
  rw [all_chains]
  refine ⟨_, rfl, ?_⟩
  cases hp : [z, x].all Cm05.isChain with
  | false =>
    rw [put_no hp] at q
    exact iteT ⟨by show 1 ≤ sizeLine; decide, fun p np => q.new t s1 np⟩
  | true =>
    rw [put_ok hp] at q
    refine iteF ?_
    obtain ⟨hz, hx⟩ := all2 hp
    have hcx := g.chain hx
    refine ⟨_, rfl, _, rfl, nl, _, 0, _, rfl, rfl, s1.seq hS, iv_atI (i := 0) rfl, ?_⟩
    refine ⟨_, rfl, a, dx, _, rfl, s1 _ _ hA, fF_words _ _, _, rfl, nl, _, 1, _, rfl, rfl, s1.seq hS, iv_atI (i := 1) rfl, N, a, l, m, x, rfl, t.same s1, by rw [g.len]; exact hx, fun w1 nw1 => ?_⟩
    have s2 := s1.trans (same_upd (o := .lst (iv (zs (Cm05.chainAt m x)))) nw1)
    refine ⟨w1, Cm05.chainAt m x, rfl, upd_same, by omega, fun H4 w3 s4 nw3 h3 => ?_⟩
    exact ⟨N, a, l, w3, m, z, 0 :: Cm05.chainAt m x, rfl, t.same (s2.trans s4), by rw [g.len]; exact hz, SqL.of h3, List.cons_ne_nil _ _, q.back (s2.trans s4)⟩
theorem ok_period (T : Txt K mg C) (D : Def K mg "period" s_period ["table", "numbers"]) (C_are_chains : Cal P w K mg base 1 "are_chains" (spAreChains K)) (M_words_of : Met P w K mg base 1 C "words_of" (spWordsOf C)) (C_period_of : Cal P w K mg base 3 "period_of" spPer) : Cal P w K mg base 4 "period" (spCall K C R13) := by
  refine D.cal sc_period spCall_len (fun fa cdv A outer st H vs Q E hr h => ?_)
  obtain ⟨N, a, l, nl, m, ns, x, rfl, t, g, hS, ⟨p, rfl, rfl⟩, q⟩ := h
  refine ⟨_, (pss_cons (ps_if (pt_not (pt_val (pe_c C_are_chains hr (by decide) (by rfl) (pa_cons (pv 1) pa_nil))))
      (pss_one (ps_ret (pe_lst (pa_cons (pe_gi (by rfl) T.c_NO_CHAIN) pa_nil))))
      pss_nil)
    (pss_one (ps_ret (pe_lst (pa_cons (pe_c C_period_of hr (by decide) (by rfl) (pa_cons (pe_mt M_words_of hr (by decide) (pv 0) (pa_cons (pe_ix ix_list (pv 1) pe_int (fun _ _ => rfl)) pa_nil)) (pa_cons (pe_fld (pv 0) rfl) pa_nil))) pa_nil))))), ?_⟩
  unfold Cm05.step at q
  dsimp only at q
  obtain ⟨dx, hA⟩ := tbl_ins t
  refine ⟨_, rfl, nl, zs [p], rfl, hS, by show 1 ≤ 1000; decide, fun H1 s1 => ?_⟩
  rw [all_chains, all_one]
  refine ⟨_, rfl, ?_⟩
  cases hp : Cm05.isChain p with
  | false =>
    rw [hp, if_pos rfl] at q
    exact iteT ⟨by show 1 ≤ sizeLine; decide, fun p np => q.new t s1 np⟩
  | true =>
    rw [hp, if_neg (by decide)] at q
    refine iteF ?_
    have hp := isChain_iff.mp hp
    have hc := g.chain hp
    refine ⟨_, rfl, a, dx, _, rfl, s1 _ _ hA, fF_words _ _, _, rfl, nl, _, 0, _, rfl, rfl, s1.seq hS, iv_atI (i := 0) rfl, N, a, l, m, p, rfl, t.same s1, by rw [g.len]; exact hp, fun wl nwl => ?_⟩
    have s3 := s1.trans (same_upd (o := .lst (iv (zs (Cm05.chainAt m p)))) nwl)
    refine ⟨_, rfl, a, C, dx, _, _, rfl, s3 _ _ hA, T.cf.cl, T.cf.nS, fF_size _ _, ?_⟩
    refine ⟨wl, Cm05.chainAt m p, m.n, rfl, upd_same, g.n2, hc.1, hc.2.1, hc.2.2.1, hc.2.2.2, fun H' s4 => ?_⟩
    exact ⟨by show 1 ≤ sizeLine; decide, fun p np => q.new t (s3.trans s4) np⟩
theorem ok_same (T : Txt K mg C) (D : Def K mg "same" s_same ["table", "numbers"]) (C_are_chains : Cal P w K mg base 1 "are_chains" (spAreChains K)) (M_words_of : Met P w K mg base 1 C "words_of" (spWordsOf C)) : Cal P w K mg base 4 "same" (spCall K C R14) := by
  refine D.cal sc_same spCall_len (fun fa cdv A outer st H vs Q E hr h => ?_)
  obtain ⟨N, a, l, nl, m, ns, x, rfl, t, g, hS, ⟨x, y, rfl, rfl⟩, q⟩ := h
  refine ⟨_, (pss_cons (ps_if (pt_not (pt_val (pe_c C_are_chains hr (by decide) (by rfl) (pa_cons (pv 1) pa_nil))))
      (pss_one (ps_ret (pe_lst (pa_cons (pe_gi (by rfl) T.c_NO_CHAIN) pa_nil))))
      pss_nil)
    (pss_one (ps_ret (pe_lst (pa_cons (pe_ifExp (pt_cmpR (op_eqD hr.units) (pe_mt M_words_of hr (by decide) (pv 0) (pa_cons (pe_ix ix_list (pv 1) pe_int (fun _ _ => rfl)) pa_nil)) (pe_mt M_words_of hr (by decide) (pv 0) (pa_cons (pe_ix ix_list (pv 1) pe_int (fun _ _ => rfl)) pa_nil)) (nomark _)) pe_int pe_int) pa_nil))))), ?_⟩
  unfold Cm05.step at q
  dsimp only at q
  obtain ⟨dx, hA⟩ := tbl_ins t
  refine ⟨_, rfl, nl, zs [x, y], rfl, hS, by show 2 ≤ 1000; decide, fun H1 s1 => ?_⟩
  rw [all_chains]
  refine ⟨_, rfl, ?_⟩
  have ea : [x, y].all Cm05.isChain = (Cm05.isChain x && Cm05.isChain y) := by
    rw [List.all_cons, all_one]
  cases hp : [x, y].all Cm05.isChain with
  | false =>
    rw [ea, Bool.and_eq_false_iff] at hp
    rw [if_pos hp] at q
    exact iteT ⟨by show 1 ≤ sizeLine; decide, fun p np => q.new t s1 np⟩
  | true =>
    obtain ⟨hx, hy⟩ := all2 hp
    rw [ea, Bool.and_eq_true] at hp
    rw [if_neg (by rw [hp.1, hp.2]; decide)] at q
    refine iteF ?_
    refine ⟨_, rfl, a, dx, _, rfl, s1 _ _ hA, fF_words _ _, _, rfl, nl, _, 0, _, rfl, rfl, s1.seq hS, iv_atI (i := 0) rfl, N, a, l, m, x, rfl, t.same s1, by rw [g.len]; exact hx, fun w1 nw1 => ?_⟩
    have s2 := s1.trans (same_upd (o := .lst (iv (zs (Cm05.chainAt m x)))) nw1)
    have h1 : (upd H1 w1 (.lst (iv (zs (Cm05.chainAt m x))))) w1 = some (.lst (iv (zs (Cm05.chainAt m x)))) := upd_same
    generalize upd H1 w1 (.lst (iv (zs (Cm05.chainAt m x)))) = H2 at s2 h1
    refine ⟨_, rfl, a, dx, _, rfl, s2 _ _ hA, fF_words _ _, _, rfl, nl, _, 1, _, rfl, rfl, s2.seq hS, iv_atI (i := 1) rfl, N, a, l, m, y, rfl, t.same s2, by rw [g.len]; exact hy, fun w2 nw2 => ?_⟩
    have s3' := same_upd (o := .lst (iv (zs (Cm05.chainAt m y)))) nw2
    have s3 := s2.trans s3'
    refine ⟨.list (pd (zs (Cm05.chainAt m x))), .list (pd (zs (Cm05.chainAt m y))), .lst (SqL.of (s3' _ _ h1)) (pd_dp _), .lst (SqL.of upd_same) (pd_dp _), pd_shaped _, pd_shaped _, _, rfl, ?_⟩
    rw [PyData.eqv, pd_eqv]
    by_cases c : Cm05.chainAt m x = Cm05.chainAt m y
    · rw [if_pos c] at q
      rw [decide_eq_true (zs_inj.mpr c)]
      exact iteT ⟨by show 1 ≤ sizeLine; decide, fun p np => q.new t s3 np⟩
    · rw [if_neg c] at q
      rw [decide_eq_false (fun z => c (zs_inj.mp z))]
      exact iteF ⟨by show 1 ≤ sizeLine; decide, fun p np => q.new t s3 np⟩
end
end Wt
/-! chains.py: after, meets, apart -/
namespace Wt
open PySem PySem.Spec PyProof.Rows L2
open Cm05 (normal)

abbrev s_after : Stmt := topS 62
theorem sc_after : FnScope ["table", "numbers", "relation", "loop", "count"] ["table", "numbers"] (defScope s_after) := ⟨rfl, rfl, rfl, by decide +kernel, rfl, by decide +kernel, by decide +kernel⟩
abbrev s_are_rows : Stmt := topS 63
theorem sc_are_rows : FnScope ["numbers", "number"] ["numbers"] (defScope s_are_rows) := ⟨rfl, rfl, rfl, by decide +kernel, rfl, by decide +kernel, by decide +kernel⟩
abbrev s_meets : Stmt := topS 64
theorem sc_meets : FnScope ["table", "numbers", "found"] ["table", "numbers"] (defScope s_meets) := ⟨rfl, rfl, rfl, by decide +kernel, rfl, by decide +kernel, by decide +kernel⟩
abbrev s_apart : Stmt := topS 65
theorem sc_apart : FnScope ["table", "numbers", "distance"] ["table", "numbers"] (defScope s_apart) := ⟨rfl, rfl, rfl, by decide +kernel, rfl, by decide +kernel, by decide +kernel⟩

/-! a loop turns less than M times -/
theorem landsIn_lt {M a s lo hi k : Nat} (hM : M ≤ 2 ^ 32) (ha : a < M) (hl : lo ≤ hi) (hh : hi < M) (h : Cm05.lands M a s lo hi = some k) : k < M := by
  unfold Cm05.lands at h
  by_cases c : lo ≤ a ∧ a ≤ hi
  · rw [if_pos c] at h
    have := Option.some.inj h
    omega
  · rw [if_neg c] at h
    refine firstIn_lt (enough_rounds hM) (Nat.mod_lt _ (by omega)) ?_ (Nat.mod_lt _ (by omega)) h
    by_cases z : a < lo
    · rw [show lo + M - a = (lo - a) + M by omega, Nat.add_mod_right, Nat.mod_eq_of_lt (by omega), show hi + M - a = (hi - a) + M by omega, Nat.add_mod_right, Nat.mod_eq_of_lt (by omega)]
      omega
    · rw [Nat.mod_eq_of_lt (by omega), Nat.mod_eq_of_lt (by omega)]
      omega
theorem plain_lt {M r a s b k : Nat} (hM : M ≤ 2 ^ 32) (ha : a < M) (hb : b < M) (hr : r ≤ 4) (h : Cm05.turnsPlain M r a s b = some k) : k < M := by
  unfold Cm05.turnsPlain at h
  have e := ends_stops (by omega : 0 < M) hb hr
  cases c : Cm05.stopsAt M r b with
  | none =>
    rw [c] at h
    cases h
  | some q =>
    rw [c] at h e
    exact landsIn_lt hM ha e.2.1 e.2.2 h
theorem turns_lt {n r a s b k : Nat} (hn : n ≤ 32) (ha : a < 2 ^ n) (hb : b < 2 ^ n) (h : Cm05.turns n r a s b = some k) : k < 2 ^ n := by
  unfold Cm05.turns at h
  dsimp only at h
  have hp := Nat.two_pow_pos n
  by_cases c : r < 5
  · rw [if_pos c] at h
    exact plain_lt (pow32 hn) ha hb (by omega) h
  · rw [if_neg c] at h
    exact plain_lt (pow32 hn) (Nat.mod_lt _ hp) (Nat.mod_lt _ hp) getD4 h

def isStep (z : Int) : Bool := decide (1 ≤ z) && decide (z ≤ 1000000)
def spRows (K : PySem.W.Frag) : Sp := fun vs H Q _ => ∃ (nl : Addr) (a s b t n : Nat), vs = [.ref nl] ∧ SqL K H nl (iv (zs [a, s, b, t, n])) ∧ ∀ H', Same H H' → Q (.bl ((zs [s, t, n]).all isStep)) H'
theorem isRow_eq {a s b t n : Nat} (ha : a < 2 ^ 32) (hb : b < 2 ^ 32) : Cm05.isRow a s b t n = (zs [s, t, n]).all isStep := by
  have f : ∀ x : Nat, isStep (x : Int) = (decide (1 ≤ x) && decide (x ≤ 1000000)) := fun x => by
    unfold isStep
    congr 1
    · exact decide_eq_decide.mpr (by omega)
    · exact decide_eq_decide.mpr (by omega)
  show _ = (isStep (s : Int) && (isStep (t : Int) && (isStep (n : Int) && true)))
  rw [f, f, f]
  unfold Cm05.isRow
  rw [decide_eq_true (show a ≤ 4294967295 by omega), decide_eq_true (show b ≤ 4294967295 by omega)]
  generalize decide (1 ≤ s) = a1
  generalize decide (1 ≤ t) = a2
  generalize decide (1 ≤ n) = a3
  generalize decide (s ≤ 1000000) = a4
  generalize decide (t ≤ 1000000) = a5
  generalize decide (n ≤ 1000000) = a6
  cases a1 <;> cases a2 <;> cases a3 <;> cases a4 <;> cases a5 <;> cases a6 <;> rfl
theorem isRow_true {a s b t n : Nat} (h : Cm05.isRow a s b t n = true) : 0 < s ∧ 0 < t ∧ 0 < n ∧ s ≤ 1000000 ∧ t ≤ 1000000 ∧ n ≤ 1000000 := by
  unfold Cm05.isRow at h
  simp only [Bool.and_eq_true, decide_eq_true_eq] at h
  omega

section
variable {P : Program} {w : World} {K : PySem.W.Frag} {mg : Str → Option Value} {base : Heap} {C : Addr}
theorem ok_after (T : Txt K mg C) (D : Def K mg "after" s_after ["table", "numbers"]) (C_are_words : Cal P w K mg base 1 "are_words" (spAreWords K)) (C_are_chains : Cal P w K mg base 1 "are_chains" (spAreChains K)) (M_words_of : Met P w K mg base 1 C "words_of" (spWordsOf C))
    (C_word_after : Cal P w K mg base 1 "word_after" (spWA K)) (C_loop_turns : Cal P w K mg base 205 "loop_turns" (spLT 8)) : Cal P w K mg base 206 "after" (spCall K C R15) := by
  refine D.cal sc_after spCall_len (fun fa cdv A outer st H vs Q E hr h => ?_)
  obtain ⟨N, a, l, nl, m, ns, x, rfl, t, g, hS, ⟨x, r, u, s, b, rfl, rfl⟩, q⟩ := h
  refine ⟨_, (pss_cons (ps_set (i := 2) sc_after.nd rfl (Or.inl rfl) (pe_ix ix_list (pv 1) pe_int (fun _ _ => rfl)))
    (pss_cons (ps_set (i := 3) sc_after.nd rfl (Or.inl rfl) (pe_slice sl_list (pv 1) (po_some pe_int) po_none))
    (pss_cons (ps_if (pt_cmpR op_gt (pv 2) (pe_gi (by rfl) T.c_LAST_RELATION) (nomark _))
      (pss_one (ps_ret (pe_lst (pa_cons (pe_gi (by rfl) T.c_NO_RELATION) pa_nil))))
      pss_nil)
    (pss_cons (ps_if (pt_not (pt_val (pe_c C_are_chains hr (by decide) (by rfl) (pa_cons (pe_slice sl_list (pv 1) po_none (po_some pe_int)) pa_nil))))
      (pss_one (ps_ret (pe_lst (pa_cons (pe_gi (by rfl) T.c_NO_CHAIN) pa_nil))))
      pss_nil)
    (pss_cons (ps_if (pt_not (pt_val (pe_c C_are_words hr (by decide) (by rfl) (pa_cons (pv 3) (pa_cons (pe_fld (pv 0) rfl) pa_nil)))))
      (pss_one (ps_ret (pe_lst (pa_cons (pe_gi (by rfl) T.c_OUT_OF_RANGE) pa_nil))))
      pss_nil)
    (pss_cons (ps_set (i := 4) sc_after.nd rfl (Or.inl rfl) (pe_c C_loop_turns hr (by decide) (by rfl) (pa_cons (pv 2) (pa_cons (pe_ix ix_list (pv 3) pe_int (fun _ _ => rfl)) (pa_cons (pe_ix ix_list (pv 3) pe_int (fun _ _ => rfl)) (pa_cons (pe_ix ix_list (pv 3) pe_int (fun _ _ => rfl)) (pa_cons (pe_fld (pv 0) rfl) pa_nil)))))))
    (pss_cons (ps_if (pt_cmpR op_isN (pv 4) pe_non (nomark _))
      (pss_one (ps_ret (pe_lst (pa_cons pe_int pa_nil))))
      pss_nil)
    (pss_one (ps_ret (pe_lst (pa_cons pe_int (pa_cons (pe_c C_word_after hr (by decide) (by rfl) (pa_cons (pe_mt M_words_of hr (by decide) (pv 0) (pa_cons (pe_ix ix_list (pv 1) pe_int (fun _ _ => rfl)) pa_nil)) (pa_cons (pv 4) (pa_cons (pe_fld (pv 0) rfl) pa_nil)))) pa_nil)))))))))))), ?_⟩
  unfold Cm05.step at q
  dsimp only at q
  obtain ⟨dx, hA⟩ := tbl_ins t
  refine ⟨_, rfl, nl, _, 1, _, rfl, rfl, hS, iv_atI (i := 1) rfl, ?_⟩
  refine ⟨_, rfl, _, rfl, nl, _, rfl, hS, fun lp nlp => ?_⟩
  rw [show cutV (iv (zs [x, r, u, s, b])) (some 2) none = iv (zs [u, s, b]) from cut_from (zs [x, r, u, s, b]) 2]
  have s1 := same_upd (o := .lst (iv (zs [u, s, b]))) nlp
  have hlp : (upd H lp (.lst (iv (zs [u, s, b])))) lp = some (.lst (iv (zs [u, s, b]))) := upd_same
  generalize upd H lp (.lst (iv (zs [u, s, b]))) = H1 at s1 hlp
  refine ⟨_, rfl, _, _, rfl, rfl, _, rfl, ite2 (fun c => ?_) (fun c => ?_)⟩
  · have c : (8 : Int) < (r : Int) := of_decide_eq_true c
    rw [if_pos (by omega)] at q
    exact ⟨by show 1 ≤ sizeLine; decide, fun p np => q.new t s1 np⟩
  have c : ¬ (8 : Int) < (r : Int) := fun z => c (decide_eq_true z)
  rw [if_neg (by omega)] at q
  refine ⟨_, rfl, _, rfl, nl, _, rfl, s1.seq hS, fun cl ncl => ?_⟩
  rw [show cutV (iv (zs [x, r, u, s, b])) none (some 1) = iv (zs [x]) from cut_to (zs [x, r, u, s, b]) 1]
  have s2 := same_upd (o := .lst (iv (zs [x]))) ncl
  refine ⟨cl, zs [x], rfl, SqL.of upd_same, by show 1 ≤ 1000; decide, fun H2 s2' => ?_⟩
  replace s2 := s2.trans s2'
  have s3 := s1.trans s2
  rw [all_chains, all_one]
  refine ⟨_, rfl, ?_⟩
  cases hp : Cm05.isChain x with
  | false =>
    rw [hp, if_pos rfl] at q
    exact iteT ⟨by show 1 ≤ sizeLine; decide, fun p np => q.new t s3 np⟩
  | true =>
    rw [hp, if_neg (by decide)] at q
    refine iteF ?_
    have hx := isChain_iff.mp hp
    have hc := g.chain hx
    refine ⟨_, rfl, _, rfl, a, C, dx, _, _, rfl, s3 _ _ hA, T.cf.cl, T.cf.nS, fF_size _ _, lp, zs [u, s, b], _, rfl, SqL.of (s2 _ _ hlp), by show 3 ≤ 1000; decide, fun H4 s4 => ?_⟩
    rw [all_words]
    have s5 := s3.trans s4
    have hlp4 := s4 _ _ (s2 _ _ hlp)
    refine ⟨_, rfl, ?_⟩
    cases hw : Cm05.words m [u, s, b] with
    | false =>
      rw [hw, if_pos rfl] at q
      exact iteT ⟨by show 1 ≤ sizeLine; decide, fun p np => q.new t s5 np⟩
    | true =>
      rw [hw, if_neg (by decide)] at q
      refine iteF ?_
      have hb := words_mem hw
      have hu := hb u (by simp)
      have hs := hb s (by simp)
      have hb := hb b (by simp)
      have hM := pow32 g.n2
      refine ⟨_, rfl, _, rfl, lp, _, 0, _, rfl, rfl, SqL.of hlp4, iv_atI (i := 0) rfl, _, rfl, lp, _, 1, _, rfl, rfl, SqL.of hlp4, iv_atI (i := 1) rfl, _, rfl, lp, _, 2, _, rfl, rfl, SqL.of hlp4, iv_atI (i := 2) rfl, _, rfl, a, C, dx, _, _, rfl, s5 _ _ hA, T.cf.cl, T.cf.nS, fF_size _ _, ?_⟩
      refine ⟨m.n, r, u, s, b, rfl, g.n1, g.n2, by omega, by omega, hu, hs, hb, fun H6 s6 => ?_⟩
      have s7 := s5.trans s6
      cases ho : Cm05.turns m.n r u s b with
      | none =>
        rw [ho] at q
        exact ⟨_, rfl, rfl, _, rfl, iteT ⟨by show 1 ≤ sizeLine; decide, fun p np => q.new t s7 np⟩⟩
      | some k =>
        have hk := turns_lt g.n2 hu hb ho
        rw [ho] at q
        refine ⟨_, rfl, rfl, _, rfl, iteF ?_⟩
        refine ⟨_, rfl, a, dx, _, rfl, s7 _ _ hA, fF_words _ _, _, rfl, nl, _, 0, _, rfl, rfl, s7.seq hS, iv_atI (i := 0) rfl, N, a, l, m, x, rfl, t.same s7, by rw [g.len]; exact hx, fun wl nwl => ?_⟩
        have s8 := s7.trans (same_upd (o := .lst (iv (zs (Cm05.chainAt m x)))) nwl)
        refine ⟨_, rfl, _, rfl, a, C, dx, _, _, rfl, s8 _ _ hA, T.cf.cl, T.cf.nS, fF_size _ _, ?_⟩
        refine ⟨wl, Cm05.chainAt m x, k, 2 ^ m.n, rfl, SqL.of upd_same, Nat.two_pow_pos _, by omega, by omega, g.words32 hx, fun H' s9 => ?_⟩
        exact ⟨by show 2 ≤ sizeLine; decide, fun p np => q.new t (s8.trans s9) np⟩
theorem ok_are_rows (T : Txt K mg C) (D : Def K mg "are_rows" s_are_rows ["numbers"]) : Cal P w K mg base 1 "are_rows" (spRows K) := by
  refine D.cal sc_are_rows (fun vs H Q E h => ?_) (fun fa cdv A outer st H vs Q E hr h => ?_)
  · obtain ⟨nl, a, s, b, t, n, rfl, _⟩ := h
    rfl
  · obtain ⟨nl, a, s, b, t, n, rfl, hS, q⟩ := h
    refine ⟨_, (pss_one (ps_ret (pe_callB (cr_all rfl) (by rfl) T.b_all (by decide +kernel) (pa_cons (pe_lc (own := [("number", 1)]) (g := gName 1) (by rfl) sc_are_rows.nd (pi_tup (pe_tup (pa_cons (pe_ix ix_list (pv 0) pe_int (fun _ _ => rfl)) (pa_cons (pe_ix ix_list (pv 0) pe_int (fun _ _ => rfl)) (pa_cons (pe_ix ix_list (pv 0) pe_int (fun _ _ => rfl)) pa_nil))))) (blkOk_by (own := [("number", 1)]) (N := ["numbers", "number"]) (sc := defScope s_are_rows) (by decide +kernel)) (fun _ _ _ _ _ => pg_name (i := 1) sc_are_rows.nd rfl (Or.inl rfl)) (fun _ _ _ _ _ => pts_nil) (fun _ _ _ _ _ => (pe_chain op_le op_le pe_int (pv 1) (pe_gi (by rfl) T.c_GREATEST_OF_ROWS)))) pa_nil)))), ?_⟩
    refine ⟨_, rfl, nl, _, 1, _, rfl, rfl, hS, iv_atI (i := 1) rfl, _, rfl, nl, _, 3, _, rfl, rfl, hS, iv_atI (i := 3) rfl, _, rfl, nl, _, 4, _, rfl, rfl, hS, iv_atI (i := 4) rfl, by show 3 ≤ sizeLine; decide, fun p np => ?_⟩
    have s1 := same_upd (o := .tup (iv (zs [s, t, n]))) np
    have hp : (upd H p (.tup (iv (zs [s, t, n])))) p = some (.tup (iv (zs [s, t, n]))) := upd_same
    obtain ⟨H1, e1⟩ : ∃ H1, H1 = upd H p (.tup (iv (zs [s, t, n]))) := ⟨_, rfl⟩
    rw [← e1] at s1 hp
    refine ⟨p, rfl, ⟨iv (zs [s, t, n]), SqT.of upd_same⟩, fun d nd => ?_⟩
    have nd : H1 d = none := by rw [e1]; exact nd
    have e2 : upd (upd H p (.tup (iv (zs [s, t, n])))) d (.lst []) = upd H1 d (.lst []) := by rw [e1]
    refine lc_it (walk_tup (K := K) (a := p) (xs := iv (zs [s, t, n]))) (fun i H' => Same H1 H' ∧ H' d = some (.lst ((((zs [s, t, n]).take i).map isStep).map V.bl))) ⟨?_, ?_⟩ (fun i H' _ h => SqT.of (h.1 _ _ hp)) ?_ ?_
    · exact e2 ▸ same_upd nd
    · rw [upd_same]
      rfl
    · rintro i x H' H2 hi0 ⟨sm, hd⟩ ⟨rfl, hx⟩
      obtain ⟨z, hz, rfl⟩ := iv_get hx
      have fin : ∀ b, b = isStep z → ∃ acc, H2 d = some (.lst acc) ∧ acc.length < sizeLine ∧ Same H1 (upd H2 d (.lst (acc ++ [.bl b]))) ∧ (upd H2 d (.lst (acc ++ [.bl b]))) d = some (.lst ((((zs [s, t, n]).take (i + 1)).map isStep).map V.bl)) := fun b hb => by
        refine ⟨_, hd, ?_, fun c o e => ?_, ?_⟩
        · rw [List.length_map, List.length_map, List.length_take]
          exact small1000 (by show min i 3 ≤ 1000; omega)
        · rw [upd_ne (ne_of_none e nd)]
          exact sm _ _ e
        · rw [upd_same, take_more hz, List.map_append, List.map_append, hb]
          rfl
      refine ⟨rfl, ?_⟩
      dsimp only [tYes]
      rw [if_pos rfl]
      refine ⟨_, rfl, _, _, rfl, rfl, _, rfl, ite2 (fun c => ?_) (fun c => ?_)⟩
      · have c := of_decide_eq_true c
        refine ⟨_, _, rfl, rfl, fin _ ?_⟩
        unfold isStep
        rw [decide_eq_true c, Bool.true_and]
      · have c : ¬ 1 ≤ z := fun t => c (decide_eq_true t)
        refine fin _ ?_
        unfold isStep
        rw [decide_eq_false c, Bool.false_and]
    · rintro H' ⟨sm, hd⟩
      refine ⟨d, (zs [s, t, n]).map isStep, rfl, SqL.of hd, ?_⟩
      rw [List.all_map]
      exact q H' (s1.trans sm)
theorem ok_meets (T : Txt K mg C) (D : Def K mg "meets" s_meets ["table", "numbers"]) (C_are_rows : Cal P w K mg base 1 "are_rows" (spRows K)) (C_meetings : Cal P w K mg base 204 "meetings" spMt) : Cal P w K mg base 205 "meets" (spCall K C R16) := by
  refine D.cal sc_meets spCall_len (fun fa cdv A outer st H vs Q E hr h => ?_)
  obtain ⟨N, ad, l, nl, m, ns, x, rfl, tb, g, hS, ⟨a, s, b, t, n, rfl, ha, hs, hb, ht, hn, rfl⟩, q⟩ := h
  refine ⟨_, (pss_cons (ps_if (pt_not (pt_val (pe_c C_are_rows hr (by decide) (by rfl) (pa_cons (pv 1) pa_nil))))
      (pss_one (ps_ret (pe_lst (pa_cons (pe_gi (by rfl) T.c_OUT_OF_RANGE) pa_nil))))
      pss_nil)
    (pss_cons (ps_set (i := 2) sc_meets.nd rfl (Or.inl rfl) (pe_c C_meetings hr (by decide) (by rfl) (pa_cons (pe_ix ix_list (pv 1) pe_int (fun _ _ => rfl)) (pa_cons (pe_ix ix_list (pv 1) pe_int (fun _ _ => rfl)) (pa_cons (pe_ix ix_list (pv 1) pe_int (fun _ _ => rfl)) (pa_cons (pe_ix ix_list (pv 1) pe_int (fun _ _ => rfl)) (pa_cons (pe_ix ix_list (pv 1) pe_int (fun _ _ => rfl)) pa_nil)))))))
    (pss_cons (ps_if (pt_cmpR op_isN (pv 2) pe_non (nomark _))
      (pss_one (ps_ret (pe_lst (pa_cons pe_int pa_nil))))
      pss_nil)
    (pss_one (ps_ret (pe_callTy call_list_of (by rfl) T.b_list (by decide +kernel) (pa_cons (pv 2) pa_nil))))))), ?_⟩
  unfold Cm05.step at q
  dsimp only at q
  refine ⟨_, rfl, nl, a, s, b, t, n, rfl, hS, fun H1 s1 => ?_⟩
  rw [← isRow_eq ha hb]
  refine ⟨_, rfl, ?_⟩
  cases hw : Cm05.isRow a s b t n with
  | false =>
    rw [hw, if_pos rfl] at q
    exact iteT ⟨by show 1 ≤ sizeLine; decide, fun p np => q.new tb s1 np⟩
  | true =>
    rw [hw, if_neg (by decide)] at q
    refine iteF ?_
    obtain ⟨h1, h2, h3, h4, h5, h6⟩ := isRow_true hw
    have hS1 := s1.seq hS
    refine ⟨_, rfl, nl, _, 0, _, rfl, rfl, hS1, iv_atI (i := 0) rfl, _, rfl, nl, _, 1, _, rfl, rfl, hS1, iv_atI (i := 1) rfl, _, rfl, nl, _, 2, _, rfl, rfl, hS1, iv_atI (i := 2) rfl, _, rfl, nl, _, 3, _, rfl, rfl, hS1, iv_atI (i := 3) rfl, _, rfl, nl, _, 4, _, rfl, rfl, hS1, iv_atI (i := 4) rfl, ?_⟩
    refine ⟨a, s, b, t, n, rfl, h1, h2, h3, h4, h5, fun e => ?_, fun r e p np => ?_⟩
    · rw [e] at q
      exact ⟨_, rfl, rfl, _, rfl, iteT ⟨by show 1 ≤ sizeLine; decide, fun p np => q.new tb s1 np⟩⟩
    · rw [e] at q
      have s2 := s1.trans (same_upd (o := .tup [.int (r.1 : Nat), .int (r.2.1 : Nat), .int (r.2.2 : Nat)]) np)
      refine ⟨_, rfl, rfl, _, rfl, iteF ?_⟩
      exact ⟨_, rfl, p, _, rfl, .inr (SqT.of upd_same), fun l nl => q.new tb s2 nl⟩
theorem ok_apart (T : Txt K mg C) (D : Def K mg "apart" s_apart ["table", "numbers"]) (C_are_rows : Cal P w K mg base 1 "are_rows" (spRows K)) (C_least_apart : Cal P w K mg base 205 "least_apart" spLA) : Cal P w K mg base 206 "apart" (spCall K C R17) := by
  refine D.cal sc_apart spCall_len (fun fa cdv A outer st H vs Q E hr h => ?_)
  obtain ⟨N, ad, l, nl, m, ns, x, rfl, tb, g, hS, ⟨a, s, b, t, n, rfl, ha, hs, hb, ht, hn, rfl⟩, q⟩ := h
  refine ⟨_, (pss_cons (ps_if (pt_not (pt_val (pe_c C_are_rows hr (by decide) (by rfl) (pa_cons (pv 1) pa_nil))))
      (pss_one (ps_ret (pe_lst (pa_cons (pe_gi (by rfl) T.c_OUT_OF_RANGE) pa_nil))))
      pss_nil)
    (pss_cons (ps_set (i := 2) sc_apart.nd rfl (Or.inl rfl) (pe_c C_least_apart hr (by decide) (by rfl) (pa_cons (pe_ix ix_list (pv 1) pe_int (fun _ _ => rfl)) (pa_cons (pe_ix ix_list (pv 1) pe_int (fun _ _ => rfl)) (pa_cons (pe_ix ix_list (pv 1) pe_int (fun _ _ => rfl)) (pa_cons (pe_ix ix_list (pv 1) pe_int (fun _ _ => rfl)) (pa_cons (pe_ix ix_list (pv 1) pe_int (fun _ _ => rfl)) pa_nil)))))))
    (pss_cons (ps_if (pt_cmpR op_isN (pv 2) pe_non (nomark _))
      (pss_one (ps_ret (pe_lst (pa_cons (pe_gi (by rfl) T.c_NO_PAIR) pa_nil))))
      pss_nil)
    (pss_one (ps_ret (pe_lst (pa_cons (pv 2) pa_nil))))))), ?_⟩
  unfold Cm05.step at q
  dsimp only at q
  refine ⟨_, rfl, nl, a, s, b, t, n, rfl, hS, fun H1 s1 => ?_⟩
  rw [← isRow_eq ha hb]
  refine ⟨_, rfl, ?_⟩
  cases hw : Cm05.isRow a s b t n with
  | false =>
    rw [hw, if_pos rfl] at q
    exact iteT ⟨by show 1 ≤ sizeLine; decide, fun p np => q.new tb s1 np⟩
  | true =>
    rw [hw, if_neg (by decide)] at q
    refine iteF ?_
    obtain ⟨h1, h2, h3, h4, h5, h6⟩ := isRow_true hw
    have hS1 := s1.seq hS
    refine ⟨_, rfl, nl, _, 0, _, rfl, rfl, hS1, iv_atI (i := 0) rfl, _, rfl, nl, _, 1, _, rfl, rfl, hS1, iv_atI (i := 1) rfl, _, rfl, nl, _, 2, _, rfl, rfl, hS1, iv_atI (i := 2) rfl, _, rfl, nl, _, 3, _, rfl, rfl, hS1, iv_atI (i := 3) rfl, _, rfl, nl, _, 4, _, rfl, rfl, hS1, iv_atI (i := 4) rfl, ?_⟩
    refine ⟨a, s, b, t, n, rfl, h1, h2, h3, h4, h5, fun H2 s2 => ?_⟩
    have s3 := s1.trans s2
    cases e : Cm05.apart a s b t n with
    | none =>
      rw [e] at q
      exact ⟨_, rfl, rfl, _, rfl, iteT ⟨by show 1 ≤ sizeLine; decide, fun p np => q.new tb s3 np⟩⟩
    | some d =>
      rw [e] at q
      exact ⟨_, rfl, rfl, _, rfl, iteF ⟨_, rfl, by show 1 ≤ sizeLine; decide, fun p np => q.new tb s3 np⟩⟩
end
end Wt
/-! chains.py: the walk over the calls -/
namespace Wt
open PySem PySem.Spec PyProof.Rows L2
open Cm05 (normal)

def EndOf (ns : List Int) (b i n e : Nat) : Prop := if i = 3 then ∃ k : Nat, ns[b + 1 + n]? = some (k : Int) ∧ e = n + 1 + k else e = n
def spEnd (K : PySem.W.Frag) : Sp := fun vs H Q _ => ∃ (cl : Addr) (ns : List Int) (b i n e : Nat), vs = [.ref cl, .int b] ∧ SqL K H cl (iv ns) ∧ ns[b]? = some (i : Int) ∧ PL[i]? = some n ∧ EndOf ns b i n e ∧ Q (.int ((b + 1 + e : Nat) : Int)) H
def spAns (K : PySem.W.Frag) : Sp := fun vs H Q _ => ∃ (cl : Addr) (ns : List Int), vs = [.ref cl] ∧ SqL K H cl (iv ns) ∧ PyCm05.answers_asked ns = true ∧ ns.length ≤ 600 ∧
  ∀ (H' : Hp) (p : Addr), H' p = some (.lst (iv (PyCm05.answers ns))) → Q (.ref p) H'
abbrev s_end_of_call : Stmt := topS 68
theorem sc_end_of_call : FnScope ["calls", "begin", "number", "end"] ["calls", "begin"] (defScope s_end_of_call) := ⟨rfl, rfl, rfl, by decide +kernel, rfl, by decide +kernel, by decide +kernel⟩
abbrev s_answers : Stmt := topS 69
theorem sc_answers : FnScope ["calls", "table", "given", "begin", "end", "answer"] ["calls"] (defScope s_answers) := ⟨rfl, rfl, rfl, by decide +kernel, rfl, by decide +kernel, by decide +kernel⟩

/-- a written tuple: it stands in every heap -/
structure KTup (K : PySem.W.Frag) (mg : Str → Option Value) (x : Str) (a : Addr) (vs : List V) : Prop where
  gl : mg x = some (.ref a)
  at_ : ∀ H, SqT K H a vs

section
variable {P : Program} {w : World} {K : PySem.W.Frag} {mg : Str → Option Value} {base : Heap} {C : Addr}
theorem ok_end_of_call (T : Txt K mg C) {tp : Addr} (c_PLAIN : KTup K mg "PLAIN_NUMBERS" tp (iv (zs PL))) (D : Def K mg "end_of_call" s_end_of_call ["calls", "begin"]) : Cal P w K mg base 1 "end_of_call" (spEnd K) := by
  refine D.cal sc_end_of_call (fun vs H Q E h => ?_) (fun fa cdv A outer st H vs Q E hr h => ?_)
  · obtain ⟨cl, ns, b, i, n, e, rfl, _⟩ := h
    rfl
  · obtain ⟨cl, ns, b, i, n, e, rfl, hS, hb, hn, he, q⟩ := h
    refine ⟨_, (pss_cons (ps_set (i := 2) sc_end_of_call.nd rfl (Or.inl rfl) (pe_ix ix_list (pv 0) (pv 1) (fun _ _ => rfl)))
    (pss_cons (ps_set (i := 3) sc_end_of_call.nd rfl (Or.inl rfl) (pe_op op_add (pe_op op_add (pv 1) pe_int) (pe_ix ix_tup (pe_gr (by rfl) c_PLAIN.gl) (pv 2) (fun _ _ => rfl))))
    (pss_cons (ps_if (pt_cmpR op_eq (pv 2) (pe_gi (by rfl) T.c_CHAIN) (nomark _))
      (pss_one (ps_ret (pe_op op_add (pe_op op_add (pv 3) pe_int) (pe_ix ix_list (pv 0) (pv 3) (fun _ _ => rfl)))))
      pss_nil)
    (pss_one (ps_ret (pv 3)))))), ?_⟩
    refine ⟨_, rfl, _, rfl, cl, _, (b : Int), _, rfl, rfl, hS, iv_atI hb, ?_⟩
    have hpl : (iv (zs PL))[i]? = some (V.int (n : Int)) := by
      rw [List.getElem?_map, List.getElem?_map, hn]
      rfl
    refine ⟨_, rfl, _, _, rfl, rfl, _, rfl, tp, _, (i : Int), _, rfl, rfl, c_PLAIN.at_ _, atI_nat hpl, _, _, rfl, rfl, ?_⟩
    refine ⟨_, rfl, rfl, _, rfl, ite2 (fun c => ?_) (fun c => ?_)⟩
    · have c : (i : Int) = 3 := V.int.inj (of_decide_eq_true c)
      unfold EndOf at he
      rw [if_pos (by omega)] at he
      obtain ⟨k, hk, rfl⟩ := he
      refine ⟨_, rfl, _, _, rfl, rfl, _, rfl, _, rfl, cl, _, ((b + 1 + n : Nat) : Int), _, rfl, rfl, hS, iv_atI hk, _, _, rfl, rfl, ?_⟩
      rw [show ((b + 1 + (n + 1 + k) : Nat) : Int) = ((b : Int) + 1 + (n : Int)) + 1 + (k : Int) by omega] at q
      exact q
    · have c : ¬ (i : Int) = 3 := fun z => c (dec_eq z)
      unfold EndOf at he
      rw [if_neg (by omega)] at he
      subst he
      exact ⟨_, rfl, q⟩

theorem TblAt.with_new {C : Addr} {H : Hp} {a l g : Addr} {m : Cm05.St} {o : HO} (t : TblAt C (fun _ => False) H a l m) (ng : H g = none) : TblAt C (fun b => b = g) (upd H g o) a l m := by
  obtain ⟨⟨dx, ps, h1, h2, h3, h4, h5⟩, ne, nn⟩ := t.same (same_upd (o := o) ng)
  refine ⟨⟨dx, ps, h1, h2, h3, fun p hp => ⟨(h4 p hp).1, fun z => ?_⟩, h5⟩, ne, fun b hb => ⟨o, by rw [hb, upd_same]⟩⟩
  obtain ⟨⟨dx', ps', h1', h2', h3', h4', h5'⟩, _, _⟩ := t
  have e : ps = ps' := by
    have hl : l ≠ g := ne_of_none h2' ng
    rw [upd_ne hl, h2'] at h2
    have e1 : ps'.map V.ref = ps.map V.ref := by
      injection h2 with h2
      injection h2
    have inj : ∀ (x y : List Addr), x.map V.ref = y.map V.ref → x = y := by
      intro x
      induction x with
      | nil => intro y hy; cases y with
        | nil => rfl
        | cons b r => cases hy
      | cons a r ih => intro y hy; cases y with
        | nil => cases hy
        | cons b s =>
          have hh := List.cons.inj hy
          have e1 : a = b := by
            have := hh.1
            injection this
          rw [e1, ih s hh.2]
    exact (inj _ _ e1).symm
  subst e
  obtain ⟨i, hi, ei⟩ := List.getElem_of_mem hp
  have hi2 : i < m.chains.length := by omega
  have := h5' i p _ (by rw [← ei]; exact List.getElem?_eq_getElem hi) (List.getElem?_eq_getElem hi2)
  rw [z, ng] at this
  cases this
/-- what is not the table's is changed: the table stands -/
theorem TblAt.upd {C : Addr} {H : Hp} {a l g : Addr} {m : Cm05.St} {o : HO} (t : TblAt C (fun b => b = g) H a l m) (na : g ≠ a) (nl : g ≠ l) : TblAt C (fun b => b = g) (upd H g o) a l m := by
  obtain ⟨⟨dx, ps, h1, h2, h3, h4, h5⟩, ne, nn⟩ := t
  refine ⟨⟨dx, ps, ?_, ?_, h3, h4, fun i p c e1 e2 => ?_⟩, ne, fun b hb => ⟨o, by rw [hb, upd_same]⟩⟩
  · rw [upd_ne na.symm]; exact h1
  · rw [upd_ne nl.symm]; exact h2
  · rw [upd_ne (h4 p (List.mem_of_getElem? e1)).2]
    exact h5 i p c e1 e2

theorem drop_at {ns : List Int} {b : Nat} (h : b < ns.length) : ns.drop b = ns[b] :: ns.drop (b + 1) := List.drop_eq_getElem_cons h
theorem ok_answers (T : Txt K mg C) {ta : Addr} {fs : List Addr} (c_BY : KTup K mg "ANSWERED_BY" ta (fs.map V.ref)) (hF : ∀ i, i < 18 → ∃ f, fs[i]? = some f ∧ CalAt P w K mg base 210 f (spCall K C (RR i)))
    {fa : Addr} {fd : FuncData} (F : Fun K "answers" "answers" s_answers fa fd) (C_Table : Mak P w K mg base 3 "Table" C (spInit C)) (C_end_of_call : Cal P w K mg base 1 "end_of_call" (spEnd K)) : FnOk P w K mg base CX0 211 fa fd ["calls"] (spAns K) := by
  refine F.ok sc_answers (fun vs H Q E h => ?_) (fun cdv A outer st H vs Q E hr h => ?_)
  · obtain ⟨cl, ns, rfl, _⟩ := h
    rfl
  · obtain ⟨cl, ns, rfl, hS, hask, hlen, q⟩ := h
    refine ⟨_, (pss_cons (ps_set (i := 1) sc_answers.nd rfl (Or.inl rfl) (pe_mk0 C_Table hr (by decide) (by rfl)))
    (pss_cons (ps_set (i := 2) sc_answers.nd rfl (Or.inl rfl) (pe_lst pa_nil))
    (pss_cons (ps_set (i := 3) sc_answers.nd rfl (Or.inl rfl) pe_int)
    (pss_cons (ps_while PassesOwn.never (pt_cmpR op_lt (pv 3) (pe_callB call_len_seq (by rfl) T.b_len (by decide +kernel) (pa_cons (pv 0) pa_nil)) (nomark _))
      (pss_cons (ps_set (i := 4) sc_answers.nd rfl (Or.inl rfl) (pe_c C_end_of_call hr (by decide) (by rfl) (pa_cons (pv 0) (pa_cons (pv 3) pa_nil))))
    (pss_cons (ps_set (i := 5) sc_answers.nd rfl (Or.inl rfl) (pe_callE hr (pe_ix ix_tup (pe_gr (by rfl) c_BY.gl) (pe_ix ix_list (pv 0) (pv 3) (fun _ _ => rfl)) (fun _ _ => rfl)) (pa_cons (pv 1) (pa_cons (pe_slice sl_list (pv 0) (po_some (pe_op op_add (pv 3) pe_int)) (po_some (pv 4))) pa_nil))))
    (pss_cons (ps_expr (pe_bm PySem.F.plainAttrs_list PySem.F.slot_list_append PySem.F.type_list_append mt_append (pv 2) (pa_cons (pe_callB call_len_seq (by rfl) T.b_len (by decide +kernel) (pa_cons (pv 5) pa_nil)) pa_nil)))
    (pss_cons (ps_expr (pe_bm PySem.F.plainAttrs_list PySem.F.slot_list_extend PySem.F.type_list_extend mt_extend (pv 2) (pa_cons (pv 5) pa_nil)))
    (pss_one (ps_set (i := 3) sc_answers.nd rfl (Or.inl rfl) (pv 4))))))))
    (pss_one (ps_ret (pv 2))))))), ?_⟩
    obtain ⟨td0, hout⟩ := todo_start hask
    -- table = Table()
    intro x dx nx nd ne
    refine ⟨fun _ => False, x, dx, rfl, upd_same, fun b hb => hb.elim, fun H1 l kp nl t => ⟨rfl, ?_⟩⟩
    have s1 : Same H H1 := Same.made nx nd kp
    have nlH : H l = none := by
      cases e : H l with
      | none => rfl
      | some o =>
        have := (upd_ne (H := upd H dx (.own x)) (o := .ins C dx []) (ne_of_none e nx)).trans ((upd_ne (ne_of_none e nd)).trans e)
        rw [this] at nl
        cases nl
    -- given = []
    refine ⟨Nat.zero_le _, fun gl ngl => ?_⟩
    have t2 := t.with_new (o := .lst []) ngl
    have s2 : Same H (upd H1 gl (.lst [])) := s1.trans (same_upd ngl)
    have gx : gl ≠ x := by
      obtain ⟨dx', h⟩ := tbl_ins t
      exact (ne_of_none h ngl).symm
    have gll : gl ≠ l := by
      obtain ⟨⟨_, _, _, h, _⟩, _⟩ := t
      exact (ne_of_none h ngl).symm
    refine ⟨fun k σ H' => ∃ (b : Nat) (l' : Addr) (m : Cm05.St) (g out : List Int) (u v : Option V), σ = [some (.ref cl), some (.ref x), some (.ref gl), some (.int b), u, v] ∧ b + k = ns.length ∧ Same H H' ∧ TblAt C (fun b => b = gl) H' x l' m ∧ Good m ∧ H' gl = some (.lst (iv g)) ∧
        gl ≠ l' ∧ H l' = none ∧ Todo (ns.drop b) m out ∧ g ++ out = PyCm05.answers ns, ⟨ns.length, 0, l, Cm05.init, [], PyCm05.answers ns, none, none, rfl, by omega, s2, t2, good_init, upd_same, gll, nlH, td0, rfl⟩, ?_⟩
    rintro k σ H' ⟨b, l', m, g, out, u, v, rfl, hbk, sm, tb, gd, hg, gl', nl', td, ego⟩
    have el : ((iv ns).length : Int) = (ns.length : Int) := by rw [List.length_map]
    refine ⟨_, rfl, _, rfl, cl, _, rfl, .inl (sm.seq hS), _, _, rfl, rfl, _, rfl, ite2 (fun c => ?_) (fun c => ?_)⟩
    · have c : (b : Int) < ((iv ns).length : Int) := of_decide_eq_true c
      have hb : b < ns.length := by omega
      rw [drop_at hb] at td
      obtain ⟨i, n, e, y, out', ep, hi, hn, he, hend, hR, td', eo⟩ := todo_cons td
      have hbi : ns[b]? = some (i : Int) := by rw [List.getElem?_eq_getElem hb, ep]
      rw [List.length_drop] at he
      have hend' : EndOf ns b i n e := by
        unfold EndOf
        by_cases z : i = 3
        · rw [if_pos z] at hend ⊢
          obtain ⟨k, hk, ek⟩ := hend
          refine ⟨k, ?_, ek⟩
          rw [List.getElem?_drop] at hk
          exact hk
        · rw [if_neg z] at hend ⊢
          exact hend
      refine ⟨fun σ' H2 => ∃ k', k' < k ∧ ∃ (b : Nat) (l' : Addr) (m : Cm05.St) (g out : List Int) (u v : Option V), σ' = [some (.ref cl), some (.ref x), some (.ref gl), some (.int b), u, v] ∧ b + k' = ns.length ∧ Same H H2 ∧ TblAt C (fun b => b = gl) H2 x l' m ∧ Good m ∧ H2 gl = some (.lst (iv g)) ∧
        gl ≠ l' ∧ H l' = none ∧ Todo (ns.drop b) m out ∧ g ++ out = PyCm05.answers ns, fun _ _ h => h, ?_⟩
      -- end = end_of_call(calls, begin)
      refine ⟨_, rfl, _, rfl, cl, ns, b, i, n, e, rfl, sm.seq hS, hbi, hn, hend', ?_⟩
      -- answer = ANSWERED_BY[calls[begin]](table, calls[begin + 1:end])
      obtain ⟨f, hf, cf⟩ := hF i hi
      have hf2 : (fs.map V.ref)[i]? = some (V.ref f) := by
        rw [List.getElem?_map, hf]
        rfl
      refine ⟨_, rfl, _, rfl, cl, _, (b : Int), _, rfl, rfl, sm.seq hS, iv_atI hbi, ta, _, (i : Int), _, rfl, rfl, c_BY.at_ _, atI_nat hf2, f, _, rfl, cf, ?_⟩
      refine ⟨_, rfl, _, rfl, _, rfl, _, _, rfl, rfl, _, rfl, _, rfl, _, rfl, cl, _, rfl, sm.seq hS, fun nl nnl => ?_⟩
      have ecut : cutV (iv ns) (some ((b : Int) + 1)) (some (((b + 1 + e : Nat)) : Int)) = iv ((ns.drop (b + 1)).take e) := by
        have := cut_both ns (b + 1) (b + 1 + e)
        rw [show b + 1 + e - (b + 1) = e by omega] at this
        exact this
      rw [ecut]
      have s3 := same_upd (o := .lst (iv ((ns.drop (b + 1)).take e))) nnl
      have hnl : (upd H' nl (.lst (iv ((ns.drop (b + 1)).take e)))) nl = some (.lst (iv ((ns.drop (b + 1)).take e))) := upd_same
      generalize upd H' nl (.lst (iv ((ns.drop (b + 1)).take e))) = H3 at s3 hnl
      refine ⟨fun b => b = gl, x, l', nl, m, _, y, rfl, tb.same s3, gd, SqL.of hnl, hR, fun H2 l2 p kp2 hl2 t3 np hp => ?_⟩
      generalize hr2 : Cm05.step m y = r2 at *
      have hg3 := s3 _ _ hg
      have hg2 : H2 gl = some (.lst (iv g)) := kp2 gl _ hg3 gx gl'
      have npg : p ≠ gl := (ne_of_none hg3 np).symm
      have sH2 : Same H H2 := fun c o h => kp2 c o (s3 _ _ (sm _ _ h)) (ne_of_none h nx) (ne_of_none h nl')
      have nl2 : H l2 = none := by
        rcases hl2 with h | h
        · rw [h]; exact nl'
        · exact (sm.trans s3).free h
      have gl2 : gl ≠ l2 := by
        rcases hl2 with h | h
        · rw [h]; exact gl'
        · exact ne_of_none hg3 h
      have nglH : H gl = none := s1.free ngl
      have elen : g.length + (1 + r2.2.length) ≤ 10000000 := by
        have := congrArg List.length ego
        rw [List.length_append, eo, List.length_cons, List.length_append] at this
        omega
      -- given.append(len(answer))
      refine ⟨_, rfl, .inl ⟨rfl, _, SqL.of hg2⟩, _, rfl, p, _, rfl, .inl (SqL.of hp), gl, _, _, rfl, rfl, hg2, ?_, ?_⟩
      · rw [List.length_map]
        exact Nat.lt_of_le_of_lt (show g.length ≤ 10000000 by omega) (by decide)
      -- given.extend(answer)
      refine ⟨_, rfl, .inl ⟨rfl, _, SqL.of upd_same⟩, _, rfl, gl, p, _, _, rfl, rfl, upd_same, by rw [upd_ne npg]; exact hp, ?_, ?_⟩
      · rw [List.length_append, List.length_map, List.length_map]
        exact Nat.le_of_lt (Nat.lt_of_le_of_lt (show g.length + 1 + r2.2.length ≤ 10000000 by omega) (by decide))
      -- begin = end
      refine ⟨_, rfl, k - (1 + e), by omega, b + 1 + e, l2, r2.1, g ++ ((r2.2.length : Int) :: r2.2), out', _, _, rfl, by omega, ?_, (t3.upd gx gl2).upd gx gl2, ?_, ?_, gl2, nl2, ?_, ?_⟩
      · intro c o h
        rw [upd_ne (ne_of_none h nglH), upd_ne (ne_of_none h nglH)]
        exact sH2 _ _ h
      · rw [← hr2]
        exact step_good gd y
      · rw [upd_same, List.length_map]
        simp only [iv, List.map_append, List.map_cons, List.append_assoc]
        rfl
      · rw [List.drop_drop] at td'
        exact td'
      · rw [← ego, eo]
        simp
    · have c : ¬ (b : Int) < ((iv ns).length : Int) := fun z => c (decide_eq_true z)
      rw [List.drop_of_length_le (by omega)] at td
      have eo := todo_nil td
      subst eo
      rw [List.append_nil] at ego
      subst ego
      exact ⟨_, rfl, q _ gl hg⟩
end
end Wt
/-! From what the top has written to the defs. -/
namespace Wt
open PySem PySem.Spec PyProof.Rows L2
section
variable {P : Program} {w : World} {K : PySem.W.Frag} {mg : Str → Option Value} {h : Heap} {C : Addr} {x m qual : Str} {st : Stmt} {ps : List Str} {f : Addr} {oc kV dc pm cd ct : Value} {od an : Option Addr} {sl : Array (Option Value)}
theorem mkDef (X : K.In h) (G : h.Ns mainGlobals mg) (a : PySem.W.nsIn K mainGlobals x = some (some (.ref f)))
    (l : K.lookup f = some ⟨oc, od, .func (PySem.W.fnOf x x (defArgs st) (defBody st) (defScope st) .none kV dc pm an cd ct), sl⟩) (c : PySem.W.codeIn K cd x = true) (k : PySem.W.keepIn K (.ref f) = true)
    (b : ∀ (kV doc pm : Value) (an : Option Addr) (cdv ct : Value) (us : List Value), us.length = ps.length → bindArgs (PySem.W.fnOf x x (defArgs st) (defBody st) (defScope st) .none kV doc pm an cdv ct) ⟨us, []⟩ = pure (ps.zip us)) : Def K mg x st ps :=
  have F := fun_mk (st := st) l c k
  ⟨f, _, F, PySem.W.mg_of X G a, F.binds b⟩
theorem mkMeth (cl : Cls K C) (a : PySem.W.findIn K (.ref C) m = some (some (.ref f))) (i : PySem.W.isFn K (.ref f) = true)
    (l : K.lookup f = some ⟨oc, od, .func (PySem.W.fnOf m qual (defArgs st) (defBody st) (defScope st) .none kV dc pm an cd ct), sl⟩) (c : PySem.W.codeIn K cd qual = true) (k : PySem.W.keepIn K (.ref f) = true)
    (b : ∀ (kV doc pm : Value) (an : Option Addr) (cdv ct : Value) (us : List Value), us.length = ps.length → bindArgs (PySem.W.fnOf m qual (defArgs st) (defBody st) (defScope st) .none kV doc pm an cdv ct) ⟨us, []⟩ = pure (ps.zip us)) : DefM K C m qual st ps :=
  have F := fun_mk (st := st) l c k
  ⟨f, _, cl, ⟨a, i, k⟩, F, F.binds b⟩
theorem mkInit (X : K.In h) (G : h.Ns mainGlobals mg) (aC : PySem.W.nsIn K mainGlobals x = some (some (.ref C))) (mk : PySem.W.makesIn K C = true) (kc : PySem.W.keepIn K (.ref C) = true) (a : PySem.W.findIn K (.ref C) "__init__" = some (some (.ref f))) (i : PySem.W.isFn K (.ref f) = true)
    (l : K.lookup f = some ⟨oc, od, .func (PySem.W.fnOf "__init__" qual (defArgs st) (defBody st) (defScope st) .none kV dc pm an cd ct), sl⟩) (c : PySem.W.codeIn K cd qual = true) (k : PySem.W.keepIn K (.ref f) = true)
    (b : ∀ (kV doc pm : Value) (an : Option Addr) (cdv ct : Value) (us : List Value), us.length = ps.length → bindArgs (PySem.W.fnOf "__init__" qual (defArgs st) (defBody st) (defScope st) .none kV doc pm an cdv ct) ⟨us, []⟩ = pure (ps.zip us)) : DefK K mg x C qual st ps :=
  have F := fun_mk (st := st) l c k
  ⟨f, _, ⟨mk, a, i, kc⟩, F, PySem.W.mg_of X G aC, F.binds b⟩
theorem mkInt {n : Int} {t : Tok} (X : K.In h) (G : h.Ns mainGlobals mg) (a : PySem.W.nsIn K mainGlobals x = some (some (.int n t))) : ∃ t, mg x = some (.int n t) := ⟨t, PySem.W.mg_of X G a⟩
theorem mkTup {a : Addr} {its : Array Value} {n : Nat} {vs : List V} (X : K.In h) (G : h.Ns mainGlobals mg) (e : PySem.W.nsIn K mainGlobals x = some (some (.ref a))) (l : K.lookup a = some ⟨.type "tuple", od, .seq its n, sl⟩) (hs : its.size ≤ sizeLine) (hv : Vals vs its.toList) : KTup K mg x a vs :=
  ⟨PySem.W.mg_of X G e, fun H => .inr ⟨_, its, n, l, rfl, rfl, hs, hv⟩⟩
theorem mkInts {a : Addr} {es : Array DictEntry} {n : Nat} {ds : List (Int × Int)} (X : K.In h) (G : h.Ns mainGlobals mg) (e : PySem.W.nsIn K mainGlobals x = some (some (.ref a))) (l : K.lookup a = some ⟨.type "dict", none, .dict es n, #[]⟩) (hl : IntsLit es.toList ds) (lo : (a == sysModules) = false) : mg x = some (.ref a) ∧ KInts K a ds :=
  ⟨PySem.W.mg_of X G e, ⟨es, n, l, hl⟩, lo⟩
theorem Cal.imp {base : Heap} {k : Nat} {sp sp' : Sp} (c : Cal P w K mg base k x sp) (h : ∀ vs H Q E, sp' vs H Q E → sp vs H Q E) : Cal P w K mg base k x sp' := by
  obtain ⟨f, fd, ps, F, hm, kp, b⟩ := c.ex
  exact ⟨f, fd, ps, ⟨fun vs H Q E z => F.len vs H Q E (h _ _ _ _ z), fun A outer s H args us vs Q E hr e0 hb r z => F.run A outer s H args us vs Q E hr e0 hb r (h _ _ _ _ z)⟩, hm, kp, b⟩
theorem Cal.call {base : Heap} {k j : Nat} {R R' : List Int → Cm05.Call → Prop} (c : Cal P w K mg base k x (spCall K C R)) (hR : ∀ {ns y}, R' ns y → R ns y) (hk : k ≤ j) (hm : mg x = some (.ref f)) : CalAt P w K mg base j f (spCall K C R') :=
  ((c.imp fun vs H Q E z => by
    obtain ⟨N, a, l, nl, m, ns, y, e, t, g, hS, r, q⟩ := z
    exact ⟨N, a, l, nl, m, ns, y, e, t, g, hS, hR r, q⟩).at_ hm).up hk
end
end Wt
/-! All together. -/
namespace Wt
open PySem PySem.Spec PyProof.Rows L2
theorem all_mk {P : Program} {w : World} {K : PySem.W.Frag} {h : Heap} {mg : Str → Option Value} {fa C dsg tp ta f3x f0 f1 f2 f3 f4 f5 f6 f7 f8 f9 f10 f11 f12 f13 f14 f15 f16 f17 : Addr} {od3 an3 : Option Addr} {sl3 : Array (Option Value)} {oc3 kV3 dc3 pm3 cd3 ct3 : Value} (X : K.In h) (G : h.Ns mainGlobals mg) (hfa : mg "answers" = some (.ref fa))
    (zpg : PySem.W.plainGet K C Str.empty = true)
    (zhd : PySem.W.hasDictIn K C = true)
    (zpo : PySem.W.plainOver K C = true)
    (zsa : PySem.W.findIn K (.ref C) "__setattr__" = some (some (.builtin "object.__setattr__")))
    (znS : PySem.W.findIn K (.ref C) "size" = some none)
    (znH : PySem.W.findIn K (.ref C) "held" = some none)
    (zb_all : mg "all" = none)
    (zb_len : mg "len" = none)
    (zb_list : mg "list" = none)
    (zb_max : mg "max" = none)
    (zb_range : mg "range" = none)
    (zb_zip : mg "zip" = none)
    (zb_enumerate : mg "enumerate" = none)
    (zb_min : mg "min" = none)
    (zc_CHAINS : ∃ t, mg "CHAINS" = some (.int 8 t))
    (zc_LONGEST : ∃ t, mg "LONGEST" = some (.int 8 t))
    (zc_FIRST_BITS : ∃ t, mg "FIRST_BITS" = some (.int 8 t))
    (zc_LAST_RELATION : ∃ t, mg "LAST_RELATION" = some (.int 8 t))
    (zc_OUT_OF_RANGE : ∃ t, mg "OUT_OF_RANGE" = some (.int (-1) t))
    (zc_NO_CHAIN : ∃ t, mg "NO_CHAIN" = some (.int (-2) t))
    (zc_NO_RELATION : ∃ t, mg "NO_RELATION" = some (.int (-4) t))
    (zc_TOO_LONG : ∃ t, mg "TOO_LONG" = some (.int (-5) t))
    (zc_MOST_BITS : ∃ t, mg "MOST_BITS" = some (.int 32 t))
    (zc_CHAIN : ∃ t, mg "CHAIN" = some (.int 3 t))
    (zc_NO_PAIR : ∃ t, mg "NO_PAIR" = some (.int (-6) t))
    (zc_GREATEST_OF_ROWS : ∃ t, mg "GREATEST_OF_ROWS" = some (.int 1000000 t))
    (zD_first_multiple : Def K mg "first_multiple" s_first_multiple ["step", "size", "low", "high"])
    (zD_rounded_up : Def K mg "rounded_up" s_rounded_up ["number", "divisor"])
    (zD_first_landing : Def K mg "first_landing" s_first_landing ["start", "step", "low", "high", "size"])
    (zD_ending_words : Def K mg "ending_words" s_ending_words ["relation", "bound", "size"])
    (zD_loop_turns : Def K mg "loop_turns" s_loop_turns ["relation", "start", "step", "bound", "size"])
    (zD_common_divisor : Def K mg "common_divisor" s_common_divisor ["first", "second"])
    (zD_meetings : Def K mg "meetings" s_meetings ["start", "step", "other_start", "other_step", "length"])
    (zD_least_apart : Def K mg "least_apart" s_least_apart ["start", "step", "other_start", "other_step", "length"])
    (zD_least_not_below_nought : Def K mg "least_not_below_nought" s_least_not_below_nought ["first", "growth", "count"])
    (zD_size_of : Def K mg "size_of" s_size_of ["bits"])
    (zD_are_words : Def K mg "are_words" s_are_words ["numbers", "size"])
    (zD_without_end_noughts : Def K mg "without_end_noughts" s_without_end_noughts ["words"])
    (zD_are_chains : Def K mg "are_chains" s_are_chains ["numbers"])
    (zD_word_after : Def K mg "word_after" s_word_after ["words", "turns", "size"])
    (zD_with_sums : Def K mg "with_sums" s_with_sums ["words"])
    (zD_sum_before : Def K mg "sum_before" s_sum_before ["words", "turns", "size"])
    (zD_padded : Def K mg "padded" s_padded ["words", "length"])
    (zD_combined : Def K mg "combined" s_combined ["first", "second", "sign", "size"])
    (zD_chain_by_words : Def K mg "chain_by_words" s_chain_by_words ["first_words", "size"])
    (zD_product : Def K mg "product" s_product ["first", "second", "size"])
    (zD_moved : Def K mg "moved" s_moved ["words", "turns", "size"])
    (zD_thinned : Def K mg "thinned" s_thinned ["words", "turns", "size"])
    (zD_period_of : Def K mg "period_of" s_period_of ["words", "size"])
    (zD_width : Def K mg "width" s_width ["table", "numbers"])
    (zD_turns : Def K mg "turns" s_turns ["table", "numbers"])
    (zD_lands : Def K mg "lands" s_lands ["table", "numbers"])
    (zD_turned : Def K mg "turned" s_turned ["count", "start", "step", "size"])
    (zD_chain : Def K mg "chain" s_chain ["table", "numbers"])
    (zD_stored : Def K mg "stored" s_stored ["table", "place", "words"])
    (zD_shown : Def K mg "shown" s_shown ["table", "place"])
    (zD_shows : Def K mg "shows" s_shows ["table", "numbers"])
    (zD_at : Def K mg "at" s_at ["table", "numbers"])
    (zD_sum_of : Def K mg "sum_of" s_sum_of ["table", "numbers"])
    (zD_plus : Def K mg "plus" s_plus ["table", "numbers"])
    (zD_less : Def K mg "less" s_less ["table", "numbers"])
    (zD_put_together : Def K mg "put_together" s_put_together ["table", "numbers", "sign"])
    (zD_times : Def K mg "times" s_times ["table", "numbers"])
    (zD_ahead : Def K mg "ahead" s_ahead ["table", "numbers"])
    (zD_every : Def K mg "every" s_every ["table", "numbers"])
    (zD_sums : Def K mg "sums" s_sums ["table", "numbers"])
    (zD_period : Def K mg "period" s_period ["table", "numbers"])
    (zD_same : Def K mg "same" s_same ["table", "numbers"])
    (zD_after : Def K mg "after" s_after ["table", "numbers"])
    (zD_are_rows : Def K mg "are_rows" s_are_rows ["numbers"])
    (zD_meets : Def K mg "meets" s_meets ["table", "numbers"])
    (zD_apart : Def K mg "apart" s_apart ["table", "numbers"])
    (zD_end_of_call : Def K mg "end_of_call" s_end_of_call ["calls", "begin"])
    (zM_begin : DefM K C "begin" "Table.begin" s_Table_begin ["self", "bits"])
    (zM_words_of : DefM K C "words_of" "Table.words_of" s_Table_words_of ["self", "place"])
    (zM_put : DefM K C "put" "Table.put" s_Table_put ["self", "place", "words"])
    (zK : DefK K mg "Table" C "Table.__init__" s_Table_init ["self"])
    (zW : mg "WITHOUT_SIGNS" = some (.ref dsg) ∧ KInts K dsg signs)
    (zP : KTup K mg "PLAIN_NUMBERS" tp (iv (zs PL)))
    (zA : KTup K mg "ANSWERED_BY" ta ([f0, f1, f2, f3, f4, f5, f6, f7, f8, f9, f10, f11, f12, f13, f14, f15, f16, f17].map V.ref))
    (zg_width : mg "width" = some (.ref f0))
    (zg_turns : mg "turns" = some (.ref f1))
    (zg_lands : mg "lands" = some (.ref f2))
    (zg_chain : mg "chain" = some (.ref f3))
    (zg_shows : mg "shows" = some (.ref f4))
    (zg_at : mg "at" = some (.ref f5))
    (zg_sum_of : mg "sum_of" = some (.ref f6))
    (zg_plus : mg "plus" = some (.ref f7))
    (zg_less : mg "less" = some (.ref f8))
    (zg_times : mg "times" = some (.ref f9))
    (zg_ahead : mg "ahead" = some (.ref f10))
    (zg_every : mg "every" = some (.ref f11))
    (zg_sums : mg "sums" = some (.ref f12))
    (zg_period : mg "period" = some (.ref f13))
    (zg_same : mg "same" = some (.ref f14))
    (zg_after : mg "after" = some (.ref f15))
    (zg_meets : mg "meets" = some (.ref f16))
    (zg_apart : mg "apart" = some (.ref f17))
    (z_a3 : PySem.W.nsIn K mainGlobals "answers" = some (some (.ref f3x)))
    (z_l3 : K.lookup f3x = some ⟨oc3, od3, .func (PySem.W.fnOf "answers" "answers" (defArgs s_answers) (defBody s_answers) (defScope s_answers) .none kV3 dc3 pm3 an3 cd3 ct3), sl3⟩)
    (z_c3 : PySem.W.codeIn K cd3 "answers" = true)
    (z_k3 : PySem.W.keepIn K (.ref f3x) = true)
    : ∃ fd : FuncData, (∀ (s : Shared) (us : List Value), us.length = (["calls"] : List Str).length → BindsTo s fd ⟨us, []⟩ ((["calls"] : List Str).zip us)) ∧ ∀ base : Heap, K.In base → base.Ns mainGlobals mg → FnOk P w K mg base CX0 211 fa fd ["calls"] (spAns K) := by
  have e := hfa.symm.trans (PySem.W.mg_of X G z_a3)
  cases e
  have zcf : CF K C := ⟨⟨zpg, zhd, zpo, zsa⟩, znS, znH⟩
  have T : Txt K mg C := ⟨zcf, zb_all, zb_len, zb_list, zb_max, zb_range, zb_zip, zb_enumerate, zc_CHAINS, zc_LONGEST, zc_FIRST_BITS, zc_LAST_RELATION, zc_OUT_OF_RANGE, zc_NO_CHAIN, zc_NO_RELATION, zc_TOO_LONG, zc_MOST_BITS, zc_CHAIN, zb_min, zc_NO_PAIR, zc_GREATEST_OF_ROWS⟩
  have F3 := fun_mk (st := s_answers) z_l3 z_c3 z_k3
  refine ⟨PySem.W.fnOf "answers" "answers" (defArgs s_answers) (defBody s_answers) (defScope s_answers) .none kV3 dc3 pm3 an3 cd3 ct3, fun s us hu => match us, hu with | [_], _ => .of_eq rfl, fun base _ _ => ?_⟩
  have c_rounded_up := ok_rounded_up (P := P) (w := w) (base := base) zD_rounded_up
  have c_first_multiple : Cal P w K mg base 202 "first_multiple" (spFM Cm05.ROUNDS) := ok_first_multiple zD_first_multiple c_rounded_up 200
  have c_first_landing := ok_first_landing zD_first_landing c_first_multiple
  have c_ending_words := ok_ending_words (P := P) (w := w) (base := base) zD_ending_words
  have c_loop_turns := ok_loop_turns zD_loop_turns c_ending_words c_first_landing zW.1 zW.2
  have c_common_divisor := ok_common_divisor (P := P) (w := w) (base := base) zD_common_divisor
  have c_meetings := ok_meetings zb_min zD_meetings c_first_landing c_rounded_up c_common_divisor
  have c_lnb := ok_least_not_below_nought zb_min zD_least_not_below_nought c_rounded_up
  have c_least_apart := ok_least_apart zD_least_apart c_meetings c_common_divisor c_lnb
  have c_size_of := ok_size_of (P := P) (w := w) (base := base) zD_size_of zb_range
  have c_are_words := ok_are_words (P := P) (w := w) (base := base) zD_are_words zb_all
  have c_trim := ok_without_end_noughts (P := P) (w := w) (base := base) zD_without_end_noughts zb_len
  have c_are_chains := ok_are_chains (P := P) (w := w) (base := base) zD_are_chains zb_all zc_CHAINS
  have m_begin := ok_begin zcf zM_begin c_size_of zb_range zc_CHAINS
  have k_Table := ok_init zcf zK m_begin zc_FIRST_BITS
  have m_words_of := ok_words_of (P := P) (w := w) (base := base) zcf zM_words_of zb_list
  have m_put := ok_put zcf zM_put c_trim zb_len zc_LONGEST
  have c_word_after := ok_word_after (P := P) (w := w) (base := base) zD_word_after zb_enumerate
  have c_with_sums := ok_with_sums (P := P) (w := w) (base := base) zD_with_sums
  have c_sum_before := ok_sum_before zD_sum_before c_word_after c_with_sums
  have c_padded := ok_padded (P := P) (w := w) (base := base) zD_padded zb_len
  have c_combined := ok_combined zD_combined c_padded zb_len zb_max zb_zip
  have c_cbw := ok_chain_by_words (P := P) (w := w) (base := base) T zD_chain_by_words
  have c_product := ok_product T zD_product c_word_after c_cbw
  have c_moved := ok_moved T zD_moved c_word_after
  have c_thinned := ok_thinned T zD_thinned c_word_after c_cbw
  have c_period_of := ok_period_of zD_period_of c_moved
  have c_turned := ok_turned (P := P) (w := w) (base := base) zD_turned
  have c_shown := ok_shown T zD_shown m_words_of
  have c_stored := ok_stored T zD_stored m_put c_shown
  have c_tog := ok_put_together T zD_put_together c_are_chains m_words_of c_combined c_stored
  have c_are_rows := ok_are_rows (P := P) (w := w) (base := base) T zD_are_rows
  have c_end := ok_end_of_call (P := P) (w := w) (base := base) T zP zD_end_of_call
  have x0 := ok_width T zD_width m_begin
  have x1 := ok_turns T zD_turns c_are_words c_turned c_loop_turns
  have x2 := ok_lands T zD_lands c_are_words c_turned c_first_landing
  have x3 := ok_chain T zD_chain c_are_words c_are_chains c_stored
  have x4 := ok_shows T zD_shows c_are_chains c_shown
  have x5 := ok_at T zD_at c_are_chains m_words_of c_word_after
  have x6 := ok_sum_of T zD_sum_of c_are_chains m_words_of c_sum_before
  have x7 := ok_plus zD_plus c_tog
  have x8 := ok_less zD_less c_tog
  have x9 := ok_times T zD_times c_are_chains m_words_of c_product c_stored
  have x10 := ok_ahead T zD_ahead c_are_chains m_words_of c_moved c_stored
  have x11 := ok_every T zD_every c_are_chains m_words_of c_thinned c_stored
  have x12 := ok_sums T zD_sums c_are_chains m_words_of c_with_sums c_stored
  have x13 := ok_period T zD_period c_are_chains m_words_of c_period_of
  have x14 := ok_same (P := P) (w := w) (base := base) T zD_same c_are_chains m_words_of
  have x15 := ok_after T zD_after c_are_words c_are_chains m_words_of c_word_after c_loop_turns
  have x16 := ok_meets T zD_meets c_are_rows c_meetings
  have x17 := ok_apart T zD_apart c_are_rows c_least_apart
  have y0 : CalAt P w K mg base 210 f0 (spCall K C (RR 0)) := x0.call RR.r0 (by decide) zg_width
  have y1 : CalAt P w K mg base 210 f1 (spCall K C (RR 1)) := x1.call RR.r1 (by decide) zg_turns
  have y2 : CalAt P w K mg base 210 f2 (spCall K C (RR 2)) := x2.call RR.r2 (by decide) zg_lands
  have y3 : CalAt P w K mg base 210 f3 (spCall K C (RR 3)) := x3.call RR.r3 (by decide) zg_chain
  have y4 : CalAt P w K mg base 210 f4 (spCall K C (RR 4)) := x4.call RR.r4 (by decide) zg_shows
  have y5 : CalAt P w K mg base 210 f5 (spCall K C (RR 5)) := x5.call RR.r5 (by decide) zg_at
  have y6 : CalAt P w K mg base 210 f6 (spCall K C (RR 6)) := x6.call RR.r6 (by decide) zg_sum_of
  have y7 : CalAt P w K mg base 210 f7 (spCall K C (RR 7)) := x7.call RR.r7 (by decide) zg_plus
  have y8 : CalAt P w K mg base 210 f8 (spCall K C (RR 8)) := x8.call RR.r8 (by decide) zg_less
  have y9 : CalAt P w K mg base 210 f9 (spCall K C (RR 9)) := x9.call RR.r9 (by decide) zg_times
  have y10 : CalAt P w K mg base 210 f10 (spCall K C (RR 10)) := x10.call RR.r10 (by decide) zg_ahead
  have y11 : CalAt P w K mg base 210 f11 (spCall K C (RR 11)) := x11.call RR.r11 (by decide) zg_every
  have y12 : CalAt P w K mg base 210 f12 (spCall K C (RR 12)) := x12.call RR.r12 (by decide) zg_sums
  have y13 : CalAt P w K mg base 210 f13 (spCall K C (RR 13)) := x13.call RR.r13 (by decide) zg_period
  have y14 : CalAt P w K mg base 210 f14 (spCall K C (RR 14)) := x14.call RR.r14 (by decide) zg_same
  have y15 : CalAt P w K mg base 210 f15 (spCall K C (RR 15)) := x15.call RR.r15 (by decide) zg_after
  have y16 : CalAt P w K mg base 210 f16 (spCall K C (RR 16)) := x16.call RR.r16 (by decide) zg_meets
  have y17 : CalAt P w K mg base 210 f17 (spCall K C (RR 17)) := x17.call RR.r17 (by decide) zg_apart
  have hF : ∀ i, i < 18 → ∃ f, [f0, f1, f2, f3, f4, f5, f6, f7, f8, f9, f10, f11, f12, f13, f14, f15, f16, f17][i]? = some f ∧ CalAt P w K mg base 210 f (spCall K C (RR i)) := fun i hi => match i, hi with
    | 0, _ => ⟨f0, rfl, y0⟩
    | 1, _ => ⟨f1, rfl, y1⟩
    | 2, _ => ⟨f2, rfl, y2⟩
    | 3, _ => ⟨f3, rfl, y3⟩
    | 4, _ => ⟨f4, rfl, y4⟩
    | 5, _ => ⟨f5, rfl, y5⟩
    | 6, _ => ⟨f6, rfl, y6⟩
    | 7, _ => ⟨f7, rfl, y7⟩
    | 8, _ => ⟨f8, rfl, y8⟩
    | 9, _ => ⟨f9, rfl, y9⟩
    | 10, _ => ⟨f10, rfl, y10⟩
    | 11, _ => ⟨f11, rfl, y11⟩
    | 12, _ => ⟨f12, rfl, y12⟩
    | 13, _ => ⟨f13, rfl, y13⟩
    | 14, _ => ⟨f14, rfl, y14⟩
    | 15, _ => ⟨f15, rfl, y15⟩
    | 16, _ => ⟨f16, rfl, y16⟩
    | 17, _ => ⟨f17, rfl, y17⟩
    | n + 18, h => absurd h (by omega)
  exact ok_answers T zA hF F3 k_Table c_end
end Wt
open PySem PySem.W PyProof.Rows
set_option maxRecDepth 100000 in
set_option maxHeartbeats 0 in
theorem PySem.Challenge.cw_wrappingturns_s01_answers_holds : PySem.Challenge.rw_wrappingturns_s01_answers.Holds := by
  w_on; k_headS; (case hw => exact ⟨[.list [.int 4, .int 0]], by decide +kernel, by decide +kernel⟩)
  k_fillS
  refine L2.walk_specK (r := PySem.Challenge.rw_wrappingturns_s01_answers) (k := 211) (CX := L2.CX0) (ps := ["calls"]) (sp := Wt.spAns) (by decide +kernel) rfl rfl ⟨rfl, by decide, by decide⟩ (fun w h Y => PySem.W.kIn_of Y) ?F ?S (fun _ _ _ _ z => z)
  case F =>
    intro w mg fa h Y KX G hmg
    refine' Wt.all_mk KX G hmg ?zpg ?zhd ?zpo ?zsa ?znS ?znH ?zb_all ?zb_len ?zb_list ?zb_max ?zb_range ?zb_zip ?zb_enumerate ?zb_min ?zc_CHAINS ?zc_LONGEST ?zc_FIRST_BITS ?zc_LAST_RELATION ?zc_OUT_OF_RANGE ?zc_NO_CHAIN ?zc_NO_RELATION ?zc_TOO_LONG ?zc_MOST_BITS ?zc_CHAIN ?zc_NO_PAIR ?zc_GREATEST_OF_ROWS ?zD_first_multiple ?zD_rounded_up ?zD_first_landing ?zD_ending_words ?zD_loop_turns ?zD_common_divisor ?zD_meetings ?zD_least_apart ?zD_least_not_below_nought ?zD_size_of ?zD_are_words ?zD_without_end_noughts ?zD_are_chains ?zD_word_after ?zD_with_sums ?zD_sum_before ?zD_padded ?zD_combined ?zD_chain_by_words ?zD_product ?zD_moved ?zD_thinned ?zD_period_of ?zD_width ?zD_turns ?zD_lands ?zD_turned ?zD_chain ?zD_stored ?zD_shown ?zD_shows ?zD_at ?zD_sum_of ?zD_plus ?zD_less ?zD_put_together ?zD_times ?zD_ahead ?zD_every ?zD_sums ?zD_period ?zD_same ?zD_after ?zD_are_rows ?zD_meets ?zD_apart ?zD_end_of_call ?zM_begin ?zM_words_of ?zM_put ?zK ?zW ?zP ?zA ?zg_width ?zg_turns ?zg_lands ?zg_chain ?zg_shows ?zg_at ?zg_sum_of ?zg_plus ?zg_less ?zg_times ?zg_ahead ?zg_every ?zg_sums ?zg_period ?zg_same ?zg_after ?zg_meets ?zg_apart ?z_a3 ?z_l3 ?z_c3 ?z_k3
    (case zb_all => refine' PySem.W.mg_none_of KX G ?zz1_a; (case zz1_a => k_is))
    (case zb_len => refine' PySem.W.mg_none_of KX G ?zz2_a; (case zz2_a => k_is))
    (case zb_list => refine' PySem.W.mg_none_of KX G ?zz3_a; (case zz3_a => k_is))
    (case zb_max => refine' PySem.W.mg_none_of KX G ?zz4_a; (case zz4_a => k_is))
    (case zb_range => refine' PySem.W.mg_none_of KX G ?zz5_a; (case zz5_a => k_is))
    (case zb_zip => refine' PySem.W.mg_none_of KX G ?zz6_a; (case zz6_a => k_is))
    (case zb_enumerate => refine' PySem.W.mg_none_of KX G ?zz7_a; (case zz7_a => k_is))
    (case zb_min => refine' PySem.W.mg_none_of KX G ?zz8_a; (case zz8_a => k_is))
    (case zc_CHAINS => refine' Wt.mkInt KX G ?zz9_a; (case zz9_a => k_is))
    (case zc_LONGEST => refine' Wt.mkInt KX G ?zz10_a; (case zz10_a => k_is))
    (case zc_FIRST_BITS => refine' Wt.mkInt KX G ?zz11_a; (case zz11_a => k_is))
    (case zc_LAST_RELATION => refine' Wt.mkInt KX G ?zz12_a; (case zz12_a => k_is))
    (case zc_OUT_OF_RANGE => refine' Wt.mkInt KX G ?zz13_a; (case zz13_a => k_is))
    (case zc_NO_CHAIN => refine' Wt.mkInt KX G ?zz14_a; (case zz14_a => k_is))
    (case zc_NO_RELATION => refine' Wt.mkInt KX G ?zz15_a; (case zz15_a => k_is))
    (case zc_TOO_LONG => refine' Wt.mkInt KX G ?zz16_a; (case zz16_a => k_is))
    (case zc_MOST_BITS => refine' Wt.mkInt KX G ?zz17_a; (case zz17_a => k_is))
    (case zc_CHAIN => refine' Wt.mkInt KX G ?zz18_a; (case zz18_a => k_is))
    (case zc_NO_PAIR => refine' Wt.mkInt KX G ?zz19_a; (case zz19_a => k_is))
    (case zc_GREATEST_OF_ROWS => refine' Wt.mkInt KX G ?zz20_a; (case zz20_a => k_is))
    (case zD_first_multiple => refine' Wt.mkDef KX G ?zz21_a ?zz22_l ?zz23_c ?zz24_k ?zz25_b; (case zz21_a => k_is); (case zz22_l => k_is); (case zz23_c => k_is); (case zz24_k => k_is); (case zz25_b => exact fun _ _ _ _ _ _ us hl => match us, hl with | [_, _, _, _], _ => rfl))
    (case zD_rounded_up => refine' Wt.mkDef KX G ?zz26_a ?zz27_l ?zz28_c ?zz29_k ?zz30_b; (case zz26_a => k_is); (case zz27_l => k_is); (case zz28_c => k_is); (case zz29_k => k_is); (case zz30_b => exact fun _ _ _ _ _ _ us hl => match us, hl with | [_, _], _ => rfl))
    (case zD_first_landing => refine' Wt.mkDef KX G ?zz31_a ?zz32_l ?zz33_c ?zz34_k ?zz35_b; (case zz31_a => k_is); (case zz32_l => k_is); (case zz33_c => k_is); (case zz34_k => k_is); (case zz35_b => exact fun _ _ _ _ _ _ us hl => match us, hl with | [_, _, _, _, _], _ => rfl))
    (case zD_ending_words => refine' Wt.mkDef KX G ?zz36_a ?zz37_l ?zz38_c ?zz39_k ?zz40_b; (case zz36_a => k_is); (case zz37_l => k_is); (case zz38_c => k_is); (case zz39_k => k_is); (case zz40_b => exact fun _ _ _ _ _ _ us hl => match us, hl with | [_, _, _], _ => rfl))
    (case zD_loop_turns => refine' Wt.mkDef KX G ?zz41_a ?zz42_l ?zz43_c ?zz44_k ?zz45_b; (case zz41_a => k_is); (case zz42_l => k_is); (case zz43_c => k_is); (case zz44_k => k_is); (case zz45_b => exact fun _ _ _ _ _ _ us hl => match us, hl with | [_, _, _, _, _], _ => rfl))
    (case zD_common_divisor => refine' Wt.mkDef KX G ?zz46_a ?zz47_l ?zz48_c ?zz49_k ?zz50_b; (case zz46_a => k_is); (case zz47_l => k_is); (case zz48_c => k_is); (case zz49_k => k_is); (case zz50_b => exact fun _ _ _ _ _ _ us hl => match us, hl with | [_, _], _ => rfl))
    (case zD_meetings => refine' Wt.mkDef KX G ?zz51_a ?zz52_l ?zz53_c ?zz54_k ?zz55_b; (case zz51_a => k_is); (case zz52_l => k_is); (case zz53_c => k_is); (case zz54_k => k_is); (case zz55_b => exact fun _ _ _ _ _ _ us hl => match us, hl with | [_, _, _, _, _], _ => rfl))
    (case zD_least_apart => refine' Wt.mkDef KX G ?zz56_a ?zz57_l ?zz58_c ?zz59_k ?zz60_b; (case zz56_a => k_is); (case zz57_l => k_is); (case zz58_c => k_is); (case zz59_k => k_is); (case zz60_b => exact fun _ _ _ _ _ _ us hl => match us, hl with | [_, _, _, _, _], _ => rfl))
    (case zD_least_not_below_nought => refine' Wt.mkDef KX G ?zz61_a ?zz62_l ?zz63_c ?zz64_k ?zz65_b; (case zz61_a => k_is); (case zz62_l => k_is); (case zz63_c => k_is); (case zz64_k => k_is); (case zz65_b => exact fun _ _ _ _ _ _ us hl => match us, hl with | [_, _, _], _ => rfl))
    (case zD_size_of => refine' Wt.mkDef KX G ?zz66_a ?zz67_l ?zz68_c ?zz69_k ?zz70_b; (case zz66_a => k_is); (case zz67_l => k_is); (case zz68_c => k_is); (case zz69_k => k_is); (case zz70_b => exact fun _ _ _ _ _ _ us hl => match us, hl with | [_], _ => rfl))
    (case zD_are_words => refine' Wt.mkDef KX G ?zz71_a ?zz72_l ?zz73_c ?zz74_k ?zz75_b; (case zz71_a => k_is); (case zz72_l => k_is); (case zz73_c => k_is); (case zz74_k => k_is); (case zz75_b => exact fun _ _ _ _ _ _ us hl => match us, hl with | [_, _], _ => rfl))
    (case zD_without_end_noughts => refine' Wt.mkDef KX G ?zz76_a ?zz77_l ?zz78_c ?zz79_k ?zz80_b; (case zz76_a => k_is); (case zz77_l => k_is); (case zz78_c => k_is); (case zz79_k => k_is); (case zz80_b => exact fun _ _ _ _ _ _ us hl => match us, hl with | [_], _ => rfl))
    (case zD_are_chains => refine' Wt.mkDef KX G ?zz81_a ?zz82_l ?zz83_c ?zz84_k ?zz85_b; (case zz81_a => k_is); (case zz82_l => k_is); (case zz83_c => k_is); (case zz84_k => k_is); (case zz85_b => exact fun _ _ _ _ _ _ us hl => match us, hl with | [_], _ => rfl))
    (case zD_word_after => refine' Wt.mkDef KX G ?zz86_a ?zz87_l ?zz88_c ?zz89_k ?zz90_b; (case zz86_a => k_is); (case zz87_l => k_is); (case zz88_c => k_is); (case zz89_k => k_is); (case zz90_b => exact fun _ _ _ _ _ _ us hl => match us, hl with | [_, _, _], _ => rfl))
    (case zD_with_sums => refine' Wt.mkDef KX G ?zz91_a ?zz92_l ?zz93_c ?zz94_k ?zz95_b; (case zz91_a => k_is); (case zz92_l => k_is); (case zz93_c => k_is); (case zz94_k => k_is); (case zz95_b => exact fun _ _ _ _ _ _ us hl => match us, hl with | [_], _ => rfl))
    (case zD_sum_before => refine' Wt.mkDef KX G ?zz96_a ?zz97_l ?zz98_c ?zz99_k ?zz100_b; (case zz96_a => k_is); (case zz97_l => k_is); (case zz98_c => k_is); (case zz99_k => k_is); (case zz100_b => exact fun _ _ _ _ _ _ us hl => match us, hl with | [_, _, _], _ => rfl))
    (case zD_padded => refine' Wt.mkDef KX G ?zz101_a ?zz102_l ?zz103_c ?zz104_k ?zz105_b; (case zz101_a => k_is); (case zz102_l => k_is); (case zz103_c => k_is); (case zz104_k => k_is); (case zz105_b => exact fun _ _ _ _ _ _ us hl => match us, hl with | [_, _], _ => rfl))
    (case zD_combined => refine' Wt.mkDef KX G ?zz106_a ?zz107_l ?zz108_c ?zz109_k ?zz110_b; (case zz106_a => k_is); (case zz107_l => k_is); (case zz108_c => k_is); (case zz109_k => k_is); (case zz110_b => exact fun _ _ _ _ _ _ us hl => match us, hl with | [_, _, _, _], _ => rfl))
    (case zD_chain_by_words => refine' Wt.mkDef KX G ?zz111_a ?zz112_l ?zz113_c ?zz114_k ?zz115_b; (case zz111_a => k_is); (case zz112_l => k_is); (case zz113_c => k_is); (case zz114_k => k_is); (case zz115_b => exact fun _ _ _ _ _ _ us hl => match us, hl with | [_, _], _ => rfl))
    (case zD_product => refine' Wt.mkDef KX G ?zz116_a ?zz117_l ?zz118_c ?zz119_k ?zz120_b; (case zz116_a => k_is); (case zz117_l => k_is); (case zz118_c => k_is); (case zz119_k => k_is); (case zz120_b => exact fun _ _ _ _ _ _ us hl => match us, hl with | [_, _, _], _ => rfl))
    (case zD_moved => refine' Wt.mkDef KX G ?zz121_a ?zz122_l ?zz123_c ?zz124_k ?zz125_b; (case zz121_a => k_is); (case zz122_l => k_is); (case zz123_c => k_is); (case zz124_k => k_is); (case zz125_b => exact fun _ _ _ _ _ _ us hl => match us, hl with | [_, _, _], _ => rfl))
    (case zD_thinned => refine' Wt.mkDef KX G ?zz126_a ?zz127_l ?zz128_c ?zz129_k ?zz130_b; (case zz126_a => k_is); (case zz127_l => k_is); (case zz128_c => k_is); (case zz129_k => k_is); (case zz130_b => exact fun _ _ _ _ _ _ us hl => match us, hl with | [_, _, _], _ => rfl))
    (case zD_period_of => refine' Wt.mkDef KX G ?zz131_a ?zz132_l ?zz133_c ?zz134_k ?zz135_b; (case zz131_a => k_is); (case zz132_l => k_is); (case zz133_c => k_is); (case zz134_k => k_is); (case zz135_b => exact fun _ _ _ _ _ _ us hl => match us, hl with | [_, _], _ => rfl))
    (case zD_width => refine' Wt.mkDef KX G ?zz136_a ?zz137_l ?zz138_c ?zz139_k ?zz140_b; (case zz136_a => k_is); (case zz137_l => k_is); (case zz138_c => k_is); (case zz139_k => k_is); (case zz140_b => exact fun _ _ _ _ _ _ us hl => match us, hl with | [_, _], _ => rfl))
    (case zD_turns => refine' Wt.mkDef KX G ?zz141_a ?zz142_l ?zz143_c ?zz144_k ?zz145_b; (case zz141_a => k_is); (case zz142_l => k_is); (case zz143_c => k_is); (case zz144_k => k_is); (case zz145_b => exact fun _ _ _ _ _ _ us hl => match us, hl with | [_, _], _ => rfl))
    (case zD_lands => refine' Wt.mkDef KX G ?zz146_a ?zz147_l ?zz148_c ?zz149_k ?zz150_b; (case zz146_a => k_is); (case zz147_l => k_is); (case zz148_c => k_is); (case zz149_k => k_is); (case zz150_b => exact fun _ _ _ _ _ _ us hl => match us, hl with | [_, _], _ => rfl))
    (case zD_turned => refine' Wt.mkDef KX G ?zz151_a ?zz152_l ?zz153_c ?zz154_k ?zz155_b; (case zz151_a => k_is); (case zz152_l => k_is); (case zz153_c => k_is); (case zz154_k => k_is); (case zz155_b => exact fun _ _ _ _ _ _ us hl => match us, hl with | [_, _, _, _], _ => rfl))
    (case zD_chain => refine' Wt.mkDef KX G ?zz156_a ?zz157_l ?zz158_c ?zz159_k ?zz160_b; (case zz156_a => k_is); (case zz157_l => k_is); (case zz158_c => k_is); (case zz159_k => k_is); (case zz160_b => exact fun _ _ _ _ _ _ us hl => match us, hl with | [_, _], _ => rfl))
    (case zD_stored => refine' Wt.mkDef KX G ?zz161_a ?zz162_l ?zz163_c ?zz164_k ?zz165_b; (case zz161_a => k_is); (case zz162_l => k_is); (case zz163_c => k_is); (case zz164_k => k_is); (case zz165_b => exact fun _ _ _ _ _ _ us hl => match us, hl with | [_, _, _], _ => rfl))
    (case zD_shown => refine' Wt.mkDef KX G ?zz166_a ?zz167_l ?zz168_c ?zz169_k ?zz170_b; (case zz166_a => k_is); (case zz167_l => k_is); (case zz168_c => k_is); (case zz169_k => k_is); (case zz170_b => exact fun _ _ _ _ _ _ us hl => match us, hl with | [_, _], _ => rfl))
    (case zD_shows => refine' Wt.mkDef KX G ?zz171_a ?zz172_l ?zz173_c ?zz174_k ?zz175_b; (case zz171_a => k_is); (case zz172_l => k_is); (case zz173_c => k_is); (case zz174_k => k_is); (case zz175_b => exact fun _ _ _ _ _ _ us hl => match us, hl with | [_, _], _ => rfl))
    (case zD_at => refine' Wt.mkDef KX G ?zz176_a ?zz177_l ?zz178_c ?zz179_k ?zz180_b; (case zz176_a => k_is); (case zz177_l => k_is); (case zz178_c => k_is); (case zz179_k => k_is); (case zz180_b => exact fun _ _ _ _ _ _ us hl => match us, hl with | [_, _], _ => rfl))
    (case zD_sum_of => refine' Wt.mkDef KX G ?zz181_a ?zz182_l ?zz183_c ?zz184_k ?zz185_b; (case zz181_a => k_is); (case zz182_l => k_is); (case zz183_c => k_is); (case zz184_k => k_is); (case zz185_b => exact fun _ _ _ _ _ _ us hl => match us, hl with | [_, _], _ => rfl))
    (case zD_plus => refine' Wt.mkDef KX G ?zz186_a ?zz187_l ?zz188_c ?zz189_k ?zz190_b; (case zz186_a => k_is); (case zz187_l => k_is); (case zz188_c => k_is); (case zz189_k => k_is); (case zz190_b => exact fun _ _ _ _ _ _ us hl => match us, hl with | [_, _], _ => rfl))
    (case zD_less => refine' Wt.mkDef KX G ?zz191_a ?zz192_l ?zz193_c ?zz194_k ?zz195_b; (case zz191_a => k_is); (case zz192_l => k_is); (case zz193_c => k_is); (case zz194_k => k_is); (case zz195_b => exact fun _ _ _ _ _ _ us hl => match us, hl with | [_, _], _ => rfl))
    (case zD_put_together => refine' Wt.mkDef KX G ?zz196_a ?zz197_l ?zz198_c ?zz199_k ?zz200_b; (case zz196_a => k_is); (case zz197_l => k_is); (case zz198_c => k_is); (case zz199_k => k_is); (case zz200_b => exact fun _ _ _ _ _ _ us hl => match us, hl with | [_, _, _], _ => rfl))
    (case zD_times => refine' Wt.mkDef KX G ?zz201_a ?zz202_l ?zz203_c ?zz204_k ?zz205_b; (case zz201_a => k_is); (case zz202_l => k_is); (case zz203_c => k_is); (case zz204_k => k_is); (case zz205_b => exact fun _ _ _ _ _ _ us hl => match us, hl with | [_, _], _ => rfl))
    (case zD_ahead => refine' Wt.mkDef KX G ?zz206_a ?zz207_l ?zz208_c ?zz209_k ?zz210_b; (case zz206_a => k_is); (case zz207_l => k_is); (case zz208_c => k_is); (case zz209_k => k_is); (case zz210_b => exact fun _ _ _ _ _ _ us hl => match us, hl with | [_, _], _ => rfl))
    (case zD_every => refine' Wt.mkDef KX G ?zz211_a ?zz212_l ?zz213_c ?zz214_k ?zz215_b; (case zz211_a => k_is); (case zz212_l => k_is); (case zz213_c => k_is); (case zz214_k => k_is); (case zz215_b => exact fun _ _ _ _ _ _ us hl => match us, hl with | [_, _], _ => rfl))
    (case zD_sums => refine' Wt.mkDef KX G ?zz216_a ?zz217_l ?zz218_c ?zz219_k ?zz220_b; (case zz216_a => k_is); (case zz217_l => k_is); (case zz218_c => k_is); (case zz219_k => k_is); (case zz220_b => exact fun _ _ _ _ _ _ us hl => match us, hl with | [_, _], _ => rfl))
    (case zD_period => refine' Wt.mkDef KX G ?zz221_a ?zz222_l ?zz223_c ?zz224_k ?zz225_b; (case zz221_a => k_is); (case zz222_l => k_is); (case zz223_c => k_is); (case zz224_k => k_is); (case zz225_b => exact fun _ _ _ _ _ _ us hl => match us, hl with | [_, _], _ => rfl))
    (case zD_same => refine' Wt.mkDef KX G ?zz226_a ?zz227_l ?zz228_c ?zz229_k ?zz230_b; (case zz226_a => k_is); (case zz227_l => k_is); (case zz228_c => k_is); (case zz229_k => k_is); (case zz230_b => exact fun _ _ _ _ _ _ us hl => match us, hl with | [_, _], _ => rfl))
    (case zD_after => refine' Wt.mkDef KX G ?zz231_a ?zz232_l ?zz233_c ?zz234_k ?zz235_b; (case zz231_a => k_is); (case zz232_l => k_is); (case zz233_c => k_is); (case zz234_k => k_is); (case zz235_b => exact fun _ _ _ _ _ _ us hl => match us, hl with | [_, _], _ => rfl))
    (case zD_are_rows => refine' Wt.mkDef KX G ?zz236_a ?zz237_l ?zz238_c ?zz239_k ?zz240_b; (case zz236_a => k_is); (case zz237_l => k_is); (case zz238_c => k_is); (case zz239_k => k_is); (case zz240_b => exact fun _ _ _ _ _ _ us hl => match us, hl with | [_], _ => rfl))
    (case zD_meets => refine' Wt.mkDef KX G ?zz241_a ?zz242_l ?zz243_c ?zz244_k ?zz245_b; (case zz241_a => k_is); (case zz242_l => k_is); (case zz243_c => k_is); (case zz244_k => k_is); (case zz245_b => exact fun _ _ _ _ _ _ us hl => match us, hl with | [_, _], _ => rfl))
    (case zD_apart => refine' Wt.mkDef KX G ?zz246_a ?zz247_l ?zz248_c ?zz249_k ?zz250_b; (case zz246_a => k_is); (case zz247_l => k_is); (case zz248_c => k_is); (case zz249_k => k_is); (case zz250_b => exact fun _ _ _ _ _ _ us hl => match us, hl with | [_, _], _ => rfl))
    (case zD_end_of_call => refine' Wt.mkDef KX G ?zz251_a ?zz252_l ?zz253_c ?zz254_k ?zz255_b; (case zz251_a => k_is); (case zz252_l => k_is); (case zz253_c => k_is); (case zz254_k => k_is); (case zz255_b => exact fun _ _ _ _ _ _ us hl => match us, hl with | [_, _], _ => rfl))
    (case zK => refine' Wt.mkInit KX G ?zz256_x ?zz257_m ?zz258_k ?zz259_a ?zz260_i ?zz261_l ?zz262_c ?zz263_q ?zz264_b; (case zz256_x => k_is); (case zz257_m => k_is); (case zz258_k => k_is); (case zz259_a => k_is); (case zz260_i => k_is); (case zz261_l => k_is); (case zz262_c => k_is); (case zz263_q => k_is); (case zz264_b => exact fun _ _ _ _ _ _ us hl => match us, hl with | [_], _ => rfl))
    (case zW => refine' Wt.mkInts KX G ?zz265_a ?zz266_l ?zz267_h ?zz268_o; (case zz265_a => k_is); (case zz266_l => k_is); (case zz267_h => exact ⟨⟨_, _, rfl, rfl, rfl⟩, ⟨_, _, rfl, rfl, rfl⟩, ⟨_, _, rfl, rfl, rfl⟩, ⟨_, _, rfl, rfl, rfl⟩, trivial⟩); (case zz268_o => rfl))
    (case zP => refine' Wt.mkTup KX G ?zz269_a ?zz270_l ?zz271_s ?zz272_v; (case zz269_a => k_is); (case zz270_l => k_is); (case zz271_s => decide); (case zz272_v => exact .cons ⟨_, rfl⟩ (.cons ⟨_, rfl⟩ (.cons ⟨_, rfl⟩ (.cons ⟨_, rfl⟩ (.cons ⟨_, rfl⟩ (.cons ⟨_, rfl⟩ (.cons ⟨_, rfl⟩ (.cons ⟨_, rfl⟩ (.cons ⟨_, rfl⟩ (.cons ⟨_, rfl⟩ (.cons ⟨_, rfl⟩ (.cons ⟨_, rfl⟩ (.cons ⟨_, rfl⟩ (.cons ⟨_, rfl⟩ (.cons ⟨_, rfl⟩ (.cons ⟨_, rfl⟩ (.cons ⟨_, rfl⟩ (.cons ⟨_, rfl⟩ (.nil))))))))))))))))))))
    (case zA => refine' Wt.mkTup KX G ?zz273_a ?zz274_l ?zz275_s ?zz276_v; (case zz273_a => k_is); (case zz274_l => k_is); (case zz275_s => decide); (case zz276_v => exact .cons rfl (.cons rfl (.cons rfl (.cons rfl (.cons rfl (.cons rfl (.cons rfl (.cons rfl (.cons rfl (.cons rfl (.cons rfl (.cons rfl (.cons rfl (.cons rfl (.cons rfl (.cons rfl (.cons rfl (.cons rfl (.nil))))))))))))))))))))
    (case zg_width => refine' PySem.W.mg_of KX G ?zz277_a; (case zz277_a => k_is))
    (case zg_turns => refine' PySem.W.mg_of KX G ?zz278_a; (case zz278_a => k_is))
    (case zg_lands => refine' PySem.W.mg_of KX G ?zz279_a; (case zz279_a => k_is))
    (case zg_chain => refine' PySem.W.mg_of KX G ?zz280_a; (case zz280_a => k_is))
    (case zg_shows => refine' PySem.W.mg_of KX G ?zz281_a; (case zz281_a => k_is))
    (case zg_at => refine' PySem.W.mg_of KX G ?zz282_a; (case zz282_a => k_is))
    (case zg_sum_of => refine' PySem.W.mg_of KX G ?zz283_a; (case zz283_a => k_is))
    (case zg_plus => refine' PySem.W.mg_of KX G ?zz284_a; (case zz284_a => k_is))
    (case zg_less => refine' PySem.W.mg_of KX G ?zz285_a; (case zz285_a => k_is))
    (case zg_times => refine' PySem.W.mg_of KX G ?zz286_a; (case zz286_a => k_is))
    (case zg_ahead => refine' PySem.W.mg_of KX G ?zz287_a; (case zz287_a => k_is))
    (case zg_every => refine' PySem.W.mg_of KX G ?zz288_a; (case zz288_a => k_is))
    (case zg_sums => refine' PySem.W.mg_of KX G ?zz289_a; (case zz289_a => k_is))
    (case zg_period => refine' PySem.W.mg_of KX G ?zz290_a; (case zz290_a => k_is))
    (case zg_same => refine' PySem.W.mg_of KX G ?zz291_a; (case zz291_a => k_is))
    (case zg_after => refine' PySem.W.mg_of KX G ?zz292_a; (case zz292_a => k_is))
    (case zg_meets => refine' PySem.W.mg_of KX G ?zz293_a; (case zz293_a => k_is))
    (case zg_apart => refine' PySem.W.mg_of KX G ?zz294_a; (case zz294_a => k_is))
    (case zpg => k_is)
    (case zhd => k_is)
    (case zpo => k_is)
    (case zsa => k_is)
    (case znS => k_is)
    (case znH => k_is)
    (case zM_begin => refine' Wt.mkMeth ?zz_clzz295_a ?zz295_a ?zz296_i ?zz297_l ?zz298_c ?zz299_k ?zz300_b; (case zz_clzz295_a => refine' ⟨?zz301_pg, ?zz302_hd, ?zz303_po, ?zz304_sa⟩; (case zz301_pg => k_is); (case zz302_hd => k_is); (case zz303_po => k_is); (case zz304_sa => k_is)); (case zz295_a => k_is); (case zz296_i => k_is); (case zz297_l => k_is); (case zz298_c => k_is); (case zz299_k => k_is); (case zz300_b => exact fun _ _ _ _ _ _ us hl => match us, hl with | [_, _], _ => rfl))
    (case zM_words_of => refine' Wt.mkMeth ?zz_clzz305_a ?zz305_a ?zz306_i ?zz307_l ?zz308_c ?zz309_k ?zz310_b; (case zz_clzz305_a => refine' ⟨?zz311_pg, ?zz312_hd, ?zz313_po, ?zz314_sa⟩; (case zz311_pg => k_is); (case zz312_hd => k_is); (case zz313_po => k_is); (case zz314_sa => k_is)); (case zz305_a => k_is); (case zz306_i => k_is); (case zz307_l => k_is); (case zz308_c => k_is); (case zz309_k => k_is); (case zz310_b => exact fun _ _ _ _ _ _ us hl => match us, hl with | [_, _], _ => rfl))
    (case zM_put => refine' Wt.mkMeth ?zz_clzz315_a ?zz315_a ?zz316_i ?zz317_l ?zz318_c ?zz319_k ?zz320_b; (case zz_clzz315_a => refine' ⟨?zz321_pg, ?zz322_hd, ?zz323_po, ?zz324_sa⟩; (case zz321_pg => k_is); (case zz322_hd => k_is); (case zz323_po => k_is); (case zz324_sa => k_is)); (case zz315_a => k_is); (case zz316_i => k_is); (case zz317_l => k_is); (case zz318_c => k_is); (case zz319_k => k_is); (case zz320_b => exact fun _ _ _ _ _ _ us hl => match us, hl with | [_, _, _], _ => rfl))
    (case z_a3 => k_is)
    (case z_l3 => k_is)
    (case z_c3 => k_is)
    (case z_k3 => k_is)
  case S =>
    intro K H xs a hO hwi hask hx
    cases hx with
    | cons h1 h2 =>
      cases h2
      cases h1 with
      | lst hs ha =>
        have e := L2.ints_dw a.1 _ ha
        subst e
        have q : ((Codec.inLen 0 600 a.1 && a.1.all (Codec.inInt 0 4294967295)) && true) = true := hwi
        rw [Bool.and_eq_true, Bool.and_eq_true] at q
        exact ⟨_, a.1, rfl, hs, hask, (Codec.inNat_iff.mp q.1.1).2, fun H' p hp => .lst (L2.SqL.of hp) (L2.dw_ints _)⟩
